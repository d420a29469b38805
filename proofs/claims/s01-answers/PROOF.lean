import PyProof.Rows.All
import Wide.All
import OpenK.AllK
import Wide.FinOn
import PyProof.EqAt
import PyProof.EqKinds
import PyProof.TupleCall
import KE.BitLaws
import Open.SpecLaws
import KE.OsHead
import KE.OsGo
import KE.KSortTupG
import PyCl06
import PySem.Challenge.RW_crossedletters_s01_answers
section
set_option Elab.async false
set_option linter.all false
set_option maxRecDepth 100000
/-! THE HAND LAYER, for ints, bools, texts, own classes, lists, tuples, dicts, comprehensions, walks over dicts, enumerate, zip, reversed, texts, calls, loops. Paste it whole ahead of your own text; what your proof does not reach may be deleted. -/
namespace L2
open PySem PySem.Spec PyProof.Rows

/-- a key: an int or a str -/
abbrev Key := Sum Int Str
def keyIs : Key → Value → Bool
  | .inl k, v => Value.isInt k v
  | .inr x, v => Value.isStrOf x v
def keyH (w : World) : Key → Int
  | .inl k => hashInt k
  | .inr x => hashStr w x
theorem keyIs_shape : ∀ {k : Key} {v : Value}, keyIs k v = true → (∃ i t, k = Sum.inl i ∧ v = Value.int i t) ∨ (∃ x t, k = Sum.inr x ∧ v = Value.str x t)
  | .inl i, v, h => by
    obtain ⟨t, e⟩ := Value.isInt_shape (k := i) (v := v) h
    exact .inl ⟨i, t, rfl, e⟩
  | .inr x, v, h => by
    obtain ⟨t, e⟩ := Value.isStrOf_shape (x := x) (v := v) h
    exact .inr ⟨x, t, rfl, e⟩
theorem keyIs_int (i : Int) (t : Tok) : keyIs (.inl i) (.int i t) = true := by simp [keyIs, Value.isInt]
theorem keyIs_str (x : Str) (t : Tok) : keyIs (.inr x) (.str x t) = true := by simp [keyIs, Value.isStrOf]
theorem key_ll (a b : Int) : decide ((Sum.inl a : Key) = Sum.inl b) = (a == b) := by
  by_cases e : a = b
  · subst e; simp
  · have h : ¬ (Sum.inl a : Key) = Sum.inl b := fun q => e (Sum.inl.inj q)
    rw [decide_eq_false h]
    exact (beq_eq_false_iff_ne.mpr e).symm
theorem key_rr (a b : Str) : decide ((Sum.inr a : Key) = Sum.inr b) = decide (a = b) := by
  by_cases e : a = b
  · subst e; simp
  · have h : ¬ (Sum.inr a : Key) = Sum.inr b := fun q => e (Sum.inr.inj q)
    rw [decide_eq_false h, decide_eq_false e]
theorem key_lr (a : Int) (b : Str) : decide ((Sum.inl a : Key) = Sum.inr b) = false := decide_eq_false (fun q => nomatch q)
theorem key_rl (a : Str) (b : Int) : decide ((Sum.inr a : Key) = Sum.inl b) = false := decide_eq_false (fun q => nomatch q)

def mixKind (prog : Program) (w : World) : PySem.KeyKind prog w Key where
  is := keyIs
  hash := keyH w
  inj := fun v a b ha hb => by
    rcases keyIs_shape ha with ⟨i, t, rfl, rfl⟩ | ⟨x, t, rfl, rfl⟩
    · rcases keyIs_shape hb with ⟨j, u, rfl, e⟩ | ⟨y, u, rfl, e⟩
      · injection e with e1 _; rw [e1]
      · exact nomatch e
    · rcases keyIs_shape hb with ⟨j, u, rfl, e⟩ | ⟨y, u, rfl, e⟩
      · exact nomatch e
      · injection e with e1 _; rw [e1]
  byValue := fun k v h => by
    rcases keyIs_shape h with ⟨i, t, rfl, rfl⟩ | ⟨x, t, rfl, rfl⟩ <;> rfl
  pyHash := fun hv h => by
    rcases keyIs_shape hv with ⟨i, t, rfl, rfl⟩ | ⟨x, t, rfl, rfl⟩
    · exact wpAny_pyHash_int h
    · exact wpAny_pyHash_str h
  eqBool := fun hu hv h => by
    rcases keyIs_shape hu with ⟨i, t, rfl, rfl⟩ | ⟨x, t, rfl, rfl⟩
    · rcases keyIs_shape hv with ⟨j, u, rfl, rfl⟩ | ⟨y, u, rfl, rfl⟩
      · rw [key_ll] at h; exact wpAny_eqBool_int h
      · rw [key_lr] at h; exact SeqAt.EqAt.int_str i t y u _ _ _ _ h
    · rcases keyIs_shape hv with ⟨j, u, rfl, rfl⟩ | ⟨y, u, rfl, rfl⟩
      · rw [key_rl] at h; exact SeqAt.EqAt.str_int x t j u _ _ _ _ h
      · rw [key_rr] at h; exact wpAny_eqBool_str h
  «strs» := fun k x t v h => by
    rcases keyIs_shape h with ⟨i, u, rfl, e⟩ | ⟨y, u, rfl, e⟩
    · exact nomatch e
    · injection e with e1 _
      subst e1
      cases v <;> rfl

theorem mixKind_is (prog : Program) (w : World) (k : Key) (v : Value) : (mixKind prog w).is k v = keyIs k v := rfl
theorem mixKind_int (prog : Program) (w : World) (i : Int) (t : Tok) : (mixKind prog w).is (.inl i) (.int i t) = true := keyIs_int i t
theorem mixKind_str (prog : Program) (w : World) (x : Str) (t : Tok) : (mixKind prog w).is (.inr x) (.str x t) = true := keyIs_str x t
end L2

namespace L2
open PySem PySem.Spec PyProof.Rows

/-- a value, without the heap -/
inductive V where
  | non | bl (b : Bool) | int (i : Int) | str (x : Str) | byt (b : Array UInt8) | flt (b : UInt64) | ref (a : Addr) | ty (n : String)
  deriving DecidableEq

def RelV : V → Value → Prop
  | .non, u => u = Value.none
  | .bl b, u => u = Value.bool b
  | .int i, u => ∃ t, u = Value.int i t
  | .str x, u => ∃ t, u = Value.str x t
  | .byt b, u => ∃ t, u = Value.bytes b t
  | .flt b, u => ∃ t, u = Value.float b t
  | .ref a, u => u = Value.ref a
  | .ty n, u => u = Value.type n

abbrev Vals : List V → List Value → Prop := Paired RelV
theorem Vals.length {xs : List V} {us : List Value} (r : Vals xs us) : xs.length = us.length := Paired.length r
theorem Vals.get : ∀ {xs : List V} {us : List Value} {i : Nat} {x : V}, Vals xs us → xs[i]? = some x → ∃ u, us[i]? = some u ∧ RelV x u
  | _, _, _, _, .nil, e => by simp at e
  | _, _, 0, _, .cons r _, e => by simp at e; subst e; exact ⟨_, rfl, r⟩
  | _, _, i + 1, x, .cons _ t, e => by
    obtain ⟨u, h1, h2⟩ := Vals.get (i := i) (x := x) t (by simpa using e)
    exact ⟨u, by simpa using h1, h2⟩
theorem Vals.set {x : V} {u : Value} (r : RelV x u) : ∀ {xs : List V} {us : List Value} (i : Nat), Vals xs us → Vals (xs.set i x) (us.set i u)
  | _, _, _, .nil => .nil
  | _, _, 0, .cons _ t => .cons r t
  | _, _, i + 1, .cons q t => .cons q (Vals.set r i t)
theorem Vals.append : ∀ {xs ys : List V} {us ws : List Value}, Vals xs us → Vals ys ws → Vals (xs ++ ys) (us ++ ws)
  | _, _, _, _, .nil, s => s
  | _, _, _, _, .cons r t, s => .cons r (Vals.append t s)
theorem Vals.take : ∀ {xs : List V} {us : List Value} (n : Nat), Vals xs us → Vals (xs.take n) (us.take n)
  | _, _, 0, _ => .nil
  | _, _, _ + 1, .nil => .nil
  | _, _, n + 1, .cons r t => .cons r (Vals.take n t)
theorem Vals.drop : ∀ {xs : List V} {us : List Value} (n : Nat), Vals xs us → Vals (xs.drop n) (us.drop n)
  | _, _, 0, r => r
  | _, _, _ + 1, .nil => .nil
  | _, _, n + 1, .cons _ t => Vals.drop n t
theorem Vals.none_of : ∀ {xs : List V} {us : List Value} {i : Nat}, Vals xs us → xs[i]? = none → us[i]? = none := fun {xs us i} r e => by
  have h1 := r.length
  have h2 : xs.length ≤ i := List.getElem?_eq_none_iff.mp e
  exact List.getElem?_eq_none_iff.mpr (by omega)

def RelO : Option V → Option Value → Prop
  | some v, some u => RelV v u
  | none, none => True
  | _, _ => False
def KV {κ : Type} : List (κ × V) → List (κ × Value) → Prop := Paired fun (p : κ × V) (q : κ × Value) => p.1 = q.1 ∧ RelV p.2 q.2

/-- a key of a dict (00_mix): an int or a text -/
def kV : Key → V
  | .inl i => .int i
  | .inr x => .str x

/-- what stands at a tracked address -/
inductive HO where
  /-- a list -/
  | lst (xs : List V)
  /-- a tuple (never changes) -/
  | tup (xs : List V)
  /-- a dict whose keys are ints and texts; one whose keys are tuples of ints and texts (the empty one is both) -/
  | dK (kvs : List (Key × V)) | dT (kvs : List (List Key × V))
  /-- a set of ints: its members, its size -/
  | set (S : Int → Bool) (n : Nat)
  /-- an instance of the class at C, its dict at dx, its attributes -/
  | ins (C dx : Addr) (fs : List (Str × V))
  /-- the dict of the instance at x -/
  | own (x : Addr)
  /-- the dict of an exception -/
  | xd (fs : List (Str × V))
  /-- a bound method, f of x -/
  | met (f x : Addr)
  /-- a range object lo, lo + 1, .. below hi -/
  | rng (lo hi : Int)
  /-- a thing that is known to the object (the script; a dict while a loop walks it): read, never written while it is so -/
  | frz (o : Obj) (u : HO)
  /-- a code object's table -/
  | tbl (ps : Array Value)
  /-- any other thing, by what is true of its one object (a def of one's own: SetO a S n := HO.ext fun h => ..) -/
  | ext (φ : Heap → Prop)

abbrev Hp := Addr → Option HO
def upd (H : Hp) (a : Addr) (o : HO) : Hp := fun b => if b = a then some o else H b
theorem upd_same {H : Hp} {a : Addr} {o : HO} : upd H a o a = some o := by unfold upd; rw [if_pos rfl]
theorem upd_ne {H : Hp} {a b : Addr} {o : HO} (h : b ≠ a) : upd H a o b = H b := by unfold upd; rw [if_neg h]
theorem upd_upd {H : Hp} {a : Addr} {o u : HO} : upd (upd H a o) a u = upd H a u := by
  funext b; unfold upd; split <;> rfl
/-- two objects of different content stand apart -/
theorem ne_of {H : Hp} {a b : Addr} {o u : HO} (h : H a = some o) (h' : H b = some u) (d : o ≠ u) : a ≠ b := by
  intro e; subst e; rw [h] at h'; exact d (Option.some.inj h')
theorem ne_of_none {H : Hp} {a b : Addr} {o : HO} (h : H a = some o) (h' : H b = none) : a ≠ b := by
  intro e; subst e; rw [h] at h'; cases h'

section
variable (P : Program) (w : World)
def ObjOk (H : Hp) (h : Heap) (a : Addr) : HO → Prop
  | .lst xs => xs.length ≤ sizeLine ∧ ∃ (its : List Value) (n : Nat), Vals xs its ∧ h.get? a = some { cls := .type "list", data := .seq its.toArray n }
  | .tup xs => xs.length ≤ sizeLine ∧ ∃ its : List Value, Vals xs its ∧ IsTup h a its.toArray
  | .dK kvs => kvs.length ≤ sizeLine ∧ (a == sysModules) = false ∧ ∃ vs, KV kvs vs ∧ h.DictOf (mixKind P w) a vs
  | .dT kvs => kvs.length ≤ sizeLine ∧ (a == sysModules) = false ∧ ∃ xs : List (List Key × Addr × Value),
      Paired (fun (p : List Key × V) (q : List Key × Addr × Value) => p.1 = q.1 ∧ H q.2.1 = some (.tup (p.1.map kV)) ∧ RelV p.2 q.2.2) kvs xs ∧
      ∃ o es ep, h.get? a = some o ∧ o.ExactDict ∧ o.data = .dict es ep ∧ es.toList = xs.map (entryOfKey (tupleKind (mixKind P w))) ∧ (xs.map (·.1)).Nodup
  | .set S n => h.SetOf (intKind P w) a S n
  | .ins C dx fs => H dx = some (.own a) ∧ fs.length ≤ 1000 ∧ dx ≠ a ∧ h.get? a = some (PySem.W.instObj C dx) ∧
      ∃ mA, h.Ns1 dx mA ∧ (∀ f, RelO (fs.lookup f) (mA f)) ∧ PySem.Within mA (fs.map (·.1))
  | .own _ => ∃ o, h.get? a = some o
  | .xd fs => ∃ mA, h.Ns1 a mA ∧ ∀ f, RelO (fs.lookup f) (mA f)
  | .rng lo hi => ∃ t u v, h.get? a = some { cls := .type "range", data := .fields #[.int lo t, .int hi u, .int 1 v] }
  | .frz o u => h.get? a = some o ∧ ObjOk H h a u
  | .tbl ps => h.get? a = some { cls := .none, data := .fields ps }
  | .met f x => h.get? a = some (PySem.W.methodObj (.ref f) (.ref x))
  | .ext φ => φ h ∧ (∃ o, h.get? a = some o) ∧ ∀ h1 h2 : Heap, φ h1 → (∀ o, h1.get? a = some o → h2.get? a = some o) → φ h2
/-- the abstract heap is held -/
def HOk (H : Hp) (h : Heap) : Prop := ∀ a o, H a = some o → ObjOk P w H h a o
end

section
variable {P : Program} {w : World} {H H' : Hp} {h h' : Heap} {a : Addr} {o : HO}
theorem ObjOk.lt (x : ObjOk P w H h a o) : a < h.objs.size := by
  cases o with
  | lst xs => obtain ⟨_, _, _, _, e⟩ := x; exact Heap.lt_size e
  | tup xs => obtain ⟨_, _, _, p⟩ := x; exact p.lt
  | dK kvs => obtain ⟨_, _, _, _, o, _, _, e, _⟩ := x; exact Heap.lt_size e
  | dT kvs => obtain ⟨_, _, _, _, o, _, _, e, _⟩ := x; exact Heap.lt_size e
  | set S n => obtain ⟨o, _, _, _, e, _⟩ := x; exact Heap.lt_size e
  | ins C dx fs => obtain ⟨_, _, _, e, _⟩ := x; exact Heap.lt_size e
  | own y => obtain ⟨_, e⟩ := x; exact Heap.lt_size e
  | xd fs => obtain ⟨_, ⟨_, _, _, e, _⟩, _⟩ := x; exact Heap.lt_size e
  | rng lo hi => obtain ⟨_, _, _, e⟩ := x; exact Heap.lt_size e
  | frz ob u => obtain ⟨e, _⟩ := x; exact Heap.lt_size e
  | tbl ps => exact Heap.lt_size (show h.get? a = some _ from x)
  | met f y => exact Heap.lt_size (show h.get? a = some _ from x)
  | ext φ => obtain ⟨_, ⟨_, e⟩, _⟩ := x; exact Heap.lt_size e
theorem Paired.mapP {α β : Type} {F G : α → β → Prop} : ∀ {l₁ : List α} {l₂ : List β}, Paired F l₁ l₂ → (∀ a b, F a b → G a b) → Paired G l₁ l₂
  | _, _, .nil, _ => .nil
  | _, _, .cons r t, f => .cons (f _ _ r) (Paired.mapP t f)
theorem Paired.imp' {α β : Type} {F G : α → β → Prop} (f : ∀ a b, F a b → G a b) {l₁ : List α} {l₂ : List β} (r : Paired F l₁ l₂) : Paired G l₁ l₂ := Paired.mapP r f
/-- what an object's description leans on: its own object, its own dict, the tuples -/
theorem ObjOk.stay (x : ObjOk P w H h a o) (k : ∀ b u, (b = a ∨ H b = some (.own a)) → h.get? b = some u → h'.get? b = some u)
    (ho : ∀ b, H b = some (.own a) → H' b = some (.own a)) (ht : ∀ b xs, H b = some (.tup xs) → H' b = some (.tup xs)) : ObjOk P w H' h' a o := by
  induction o with
  | lst xs => obtain ⟨z, its, n, r, e⟩ := x; exact ⟨z, its, n, r, k _ _ (.inl rfl) e⟩
  | tup xs => obtain ⟨z, its, r, ob, e, c⟩ := x; exact ⟨z, its, r, ob, k _ _ (.inl rfl) e, c⟩
  | dK kvs => obtain ⟨z, y, vs, r, ob, es, ep, e, c⟩ := x; exact ⟨z, y, vs, r, ob, es, ep, k _ _ (.inl rfl) e, c⟩
  | dT kvs =>
    obtain ⟨z, y, xs, r, ob, es, ep, e, c⟩ := x
    exact ⟨z, y, xs, Paired.mapP r fun p q z => ⟨z.1, ht _ _ z.2.1, z.2.2⟩, ob, es, ep, k _ _ (.inl rfl) e, c⟩
  | set S n => obtain ⟨ob, es, ep, t, e, c⟩ := x; exact ⟨ob, es, ep, t, k _ _ (.inl rfl) e, c⟩
  | ins C dx fs =>
    obtain ⟨d, z, ne, e, mA, ⟨od, es, ep, e2, c⟩, r⟩ := x
    exact ⟨ho _ d, z, ne, k _ _ (.inl rfl) e, mA, ⟨od, es, ep, k _ _ (.inr d) e2, c⟩, r⟩
  | own y => obtain ⟨ob, e⟩ := x; exact ⟨ob, k _ _ (.inl rfl) e⟩
  | xd fs => obtain ⟨mA, ⟨od, es, ep, e, c⟩, r⟩ := x; exact ⟨mA, ⟨od, es, ep, k _ _ (.inl rfl) e, c⟩, r⟩
  | rng lo hi => obtain ⟨t, u, v, e⟩ := x; exact ⟨t, u, v, k _ _ (.inl rfl) e⟩
  | frz ob u ih => obtain ⟨e, q⟩ := x; exact ⟨k _ _ (.inl rfl) e, ih q⟩
  | tbl ps =>
    have e : h.get? a = some { cls := .none, data := .fields ps } := x
    show h'.get? a = some { cls := .none, data := .fields ps }
    exact k a _ (.inl rfl) e
  | met f y =>
    have e : h.get? a = some (PySem.W.methodObj (.ref f) (.ref y)) := x
    show h'.get? a = some (PySem.W.methodObj (.ref f) (.ref y))
    exact k a _ (.inl rfl) e
  | ext φ => obtain ⟨p, ⟨o, e⟩, st⟩ := x; exact ⟨st _ _ p fun o q => k _ _ (.inl rfl) q, ⟨o, k _ _ (.inl rfl) e⟩, st⟩
theorem HOk.lt (x : HOk P w H h) (e : H a = some o) : a < h.objs.size := (x a o e).lt
theorem HOk.fresh (x : HOk P w H h) (e : h.objs.size ≤ a) : H a = none := by
  cases q : H a with
  | none => rfl
  | some u => exact absurd (Nat.lt_of_lt_of_le (x.lt q) e) (Nat.lt_irrefl _)
/-- every object of the heap is kept -/
theorem HOk.kept (x : HOk P w H h) (k : ∀ b u, h.get? b = some u → h'.get? b = some u) : HOk P w H h' := fun a o e =>
  (x a o e).stay (fun b u _ q => k b u q) (fun _ q => q) fun _ _ q => q
/-- a new object is laid and tracked -/
theorem HOk.laid (x : HOk P w H h) (k : ∀ b u, h.get? b = some u → h'.get? b = some u) (hp : h.objs.size ≤ a) (new : ObjOk P w (upd H a o) h' a o) : HOk P w (upd H a o) h' := fun b u e => by
  have hn := x.fresh hp
  by_cases hb : b = a
  · subst hb; rw [upd_same] at e; cases e; exact new
  · rw [upd_ne hb] at e
    exact (x b u e).stay (fun c v _ q => k c v q) (fun c q => by rw [upd_ne (ne_of_none q hn)]; exact q) fun c xs q => by rw [upd_ne (ne_of_none q hn)]; exact q
end

/-- what may be read as u: it is u, or a known u -/
def Rd (H : Hp) (a : Addr) (u : HO) : Prop := H a = some u ∨ ∃ o, H a = some (.frz o u)
theorem Rd.of {H : Hp} {a : Addr} {u : HO} (h : H a = some u) : Rd H a u := .inl h
theorem Rd.ok {P : Program} {w : World} {H : Hp} {h : Heap} {a : Addr} {u : HO} (r : Rd H a u) (x : HOk P w H h) : ObjOk P w H h a u := by
  rcases r with r | ⟨o, r⟩
  · exact x a u r
  · obtain ⟨_, q⟩ := x a _ r
    exact q
/-- what may be written -/
def Mut : Option HO → Prop
  | some (.lst _) => True
  | some (.dK _) => True
  | some (.dT _) => True
  | some (.set _ _) => True
  | some (.ins _ _ _) => True
  | some (.ext _) => True
  | _ => False
section
variable {P : Program} {w : World} {H : Hp} {h h' : Heap} {x e : Addr} {o' : HO}
/-- the object at e is changed: x itself, or the dict of the instance x -/
theorem HOk.write (ok : HOk P w H h) (mu : Mut (H x)) (he : e = x ∨ H e = some (.own x)) (k : ∀ b u, b ≠ e → h.get? b = some u → h'.get? b = some u) (heo : ∃ u, h'.get? e = some u)
    (new : ObjOk P w (upd H x o') h' x o') : HOk P w (upd H x o') h' := fun b u q => by
  have nown : ∀ c y, H c = some (.own y) → c ≠ x := fun c y r z => by subst z; rw [r] at mu; exact mu
  have ntup : ∀ c xs, H c = some (.tup xs) → c ≠ x := fun c xs r z => by subst z; rw [r] at mu; exact mu
  by_cases hb : b = x
  · subst hb; rw [upd_same] at q; cases q; exact new
  · rw [upd_ne hb] at q
    by_cases hbe : b = e
    · have q' : H b = some (.own x) := by
        rcases he with z | z
        · exact absurd (hbe.trans z) hb
        · rw [hbe]; exact z
      rw [q] at q'; cases q'
      obtain ⟨v, hv⟩ := heo
      exact ⟨v, by rw [hbe]; exact hv⟩
    · refine (ok b u q).stay (fun c v hc r => k c v ?_ r) (fun c r => by rw [upd_ne (nown c b r)]; exact r) fun c xs r => by rw [upd_ne (ntup c xs r)]; exact r
      rcases hc with rfl | hc
      · exact hbe
      · rintro rfl
        rcases he with z | z
        · exact nown c b hc z
        · rw [hc] at z; cases z; exact hb rfl
end

/-! ### kept unless tracked; of the frames at fs (the callers') the slots may change (an exception that passes writes there); of the records at ex (iterators) nothing is said -/
structure Un (fs ex : List Addr) (H H' : Hp) (h h' : Heap) : Prop where
  keep : ∀ b o, h.get? b = some o → H b = none → b ∉ fs → b ∉ ex → h'.get? b = some o
  slot : ∀ b o, h.get? b = some o → H b = none → b ∈ fs → b ∉ ex → ∃ sl, h'.get? b = some { o with slots := sl }
  free : ∀ b o, h.get? b = some o → H b = none → b ∉ ex → H' b = none
  there : ∀ b o, h.get? b = some o → b ∉ ex → ∃ o', h'.get? b = some o'
  tups : ∀ b xs, H b = some (.tup xs) → H' b = some (.tup xs)
  frzs : ∀ b o u, H b = some (.frz o u) → H' b = some (.frz o u)
  tbls : ∀ b ps, H b = some (.tbl ps) → ∃ more, H' b = some (.tbl (ps ++ more))
section
variable {fs fs' ex ex' : List Addr} {H H1 H2 : Hp} {h h1 h2 h' : Heap} {a x e : Addr} {o : HO}
theorem Un.any (u : Un fs ex H H1 h h1) {b : Addr} {ob : Obj} (q : h.get? b = some ob) (n : H b = none) (hx : b ∉ ex) : ∃ sl, h1.get? b = some { ob with slots := sl } := by
  by_cases hb : b ∈ fs
  · exact u.slot b ob q n hb hx
  · exact ⟨ob.slots, u.keep b ob q n hb hx⟩
theorem Un.trans (a : Un fs ex H H1 h h1) (b : Un fs ex H1 H2 h1 h2) : Un fs ex H H2 h h2 where
  keep := fun c ob q n hc hx => b.keep c ob (a.keep c ob q n hc hx) (a.free c ob q n hx) hc hx
  slot := fun c ob q n hc hx => by
    obtain ⟨sl, e1⟩ := a.slot c ob q n hc hx
    obtain ⟨sl', e2⟩ := b.slot c _ e1 (a.free c ob q n hx) hc hx
    exact ⟨sl', e2⟩
  free := fun c ob q n hx => by
    obtain ⟨o', e1⟩ := a.there c ob q hx
    exact b.free c o' e1 (a.free c ob q n hx) hx
  there := fun c ob q hx => by
    obtain ⟨o', e1⟩ := a.there c ob q hx
    exact b.there c o' e1 hx
  tups := fun c xs q => b.tups c xs (a.tups c xs q)
  frzs := fun c ob xs q => b.frzs c ob xs (a.frzs c ob xs q)
  tbls := fun c ps q => by
    obtain ⟨m1, e1⟩ := a.tbls c ps q
    obtain ⟨m2, e2⟩ := b.tbls c _ e1
    exact ⟨m1 ++ m2, by rw [e2, Array.append_assoc]⟩
theorem Un.kept (k : ∀ b u, h.get? b = some u → h'.get? b = some u) : Un fs ex H H h h' :=
  ⟨fun b ob q _ _ _ => k b ob q, fun b ob q _ _ _ => ⟨ob.slots, k b ob q⟩, fun _ _ _ n _ => n, fun b ob q _ => ⟨ob, k b ob q⟩, fun _ _ q => q, fun _ _ _ q => q, fun _ ps q => ⟨#[], by rw [q]; simp⟩⟩
theorem Un.refl : Un fs ex H H h h := Un.kept fun _ _ q => q
theorem Un.laid (k : ∀ b u, h.get? b = some u → h'.get? b = some u) (hp : h.objs.size ≤ a) (hn : H a = none) : Un fs ex H (upd H a o) h h' where
  keep := fun b u q _ _ _ => k b u q
  slot := fun b u q _ _ _ => ⟨u.slots, k b u q⟩
  free := fun b u q n _ => by rw [upd_ne (Nat.ne_of_lt (Nat.lt_of_lt_of_le (Heap.lt_size q) hp))]; exact n
  there := fun b u q _ => ⟨u, k b u q⟩
  tups := fun b xs q => by rw [upd_ne (ne_of_none q hn)]; exact q
  frzs := fun b u xs q => by rw [upd_ne (ne_of_none q hn)]; exact q
  tbls := fun b ps q => ⟨#[], by rw [upd_ne (ne_of_none q hn), q]; simp⟩
theorem Un.write (mu : Mut (H x)) (he : e = x ∨ H e = some (.own x)) (k : ∀ b u, b ≠ e → h.get? b = some u → h'.get? b = some u) (heo : ∃ u, h'.get? e = some u) : Un fs ex H (upd H x o) h h' := by
  have hx : ∀ b, H b = none → b ≠ x := fun b n z => by subst z; rw [n] at mu; exact mu
  have hb : ∀ b, H b = none → b ≠ e := fun b n z => by
    subst z
    rcases he with r | r
    · exact hx b n r
    · rw [n] at r; cases r
  have hm : ∀ b u, H b = some u → ¬ Mut (some u) → b ≠ x := fun b u q nm z => by subst z; rw [q] at mu; exact nm mu
  refine ⟨fun b u q n _ _ => k b u (hb b n) q, fun b u q n _ _ => ⟨u.slots, k b u (hb b n) q⟩, fun b u q n _ => by rw [upd_ne (hx b n)]; exact n, fun b u q _ => ?_,
    fun b xs q => by rw [upd_ne (hm b _ q fun z => z)]; exact q, fun b u xs q => by rw [upd_ne (hm b _ q fun z => z)]; exact q, fun b ps q => ⟨#[], by rw [upd_ne (hm b _ q fun z => z), q]; simp⟩⟩
  by_cases hbe : b = e
  · subst hbe; exact heo
  · exact ⟨u, k b u hbe q⟩
theorem Un.mono (u : Un fs ex H H1 h h1) (hs : ∀ b ∈ fs, b ∈ fs') (hx : ∀ b ∈ ex, b ∈ ex') : Un fs' ex' H H1 h h1 :=
  ⟨fun b ob q n hb he => u.keep b ob q n (fun z => hb (hs b z)) fun z => he (hx b z), fun _ _ q n _ he => u.any q n fun z => he (hx _ z), fun b ob q n he => u.free b ob q n fun z => he (hx b z), fun b ob q he => u.there b ob q fun z => he (hx b z), u.tups, u.frzs, u.tbls⟩
end

/-! ### the heap without what is tracked -/
def trk (h : Heap) (H : Hp) : List Addr := (List.range h.objs.size).filter fun a => (H a).isSome
def hidT (h : Heap) (H : Hp) : Heap := PySem.W.hideAll h (trk h H)
theorem hidT_size (h : Heap) (H : Hp) : (hidT h H).objs.size = h.objs.size := PySem.W.hideAll_size _ _
theorem hidT_get {h : Heap} {H : Hp} {b : Addr} {o : Obj} (e : h.get? b = some o) (n : H b = none) : (hidT h H).get? b = some o :=
  PySem.W.hideAll_get _ e fun hm => by
    have q : (H b).isSome = true := (List.mem_filter.mp hm).2
    rw [n] at q; simp at q
theorem of_hidT {h : Heap} {H : Hp} {b : Addr} {o : Obj} (e : (hidT h H).get? b = some o) : h.get? b = some o ∧ H b = none := by
  have e' : h.get? b = some o := PySem.W.of_hideAll (trk h H) e
  refine ⟨e', ?_⟩
  cases q : H b with
  | none => rfl
  | some x =>
    have hm : b ∈ trk h H := List.mem_filter.mpr ⟨List.mem_range.mpr (Heap.lt_size e'), by simp [q]⟩
    have z : (hidT h H).get? b = none := PySem.W.hideAll_none (trk h H) hm
    rw [z] at e; cases e

/-! ### OpenK's ledger, filled with every new object but one -/
def allNews (g h : Heap) (L : Addr) : List (Addr × Obj) := (List.range h.objs.size).filterMap fun a => if a = L ∨ (g.get? a).isSome = true then none else (h.get? a).map fun o => (a, o)
theorem mem_allNews {g h : Heap} {L a : Addr} {o : Obj} (h1 : a ≠ L) (h2 : g.get? a = none) (h3 : h.get? a = some o) : (a, o) ∈ allNews g h L :=
  List.mem_filterMap.mpr ⟨a, List.mem_range.mpr (Heap.lt_size h3), by simp [h1, h2, h3]⟩
theorem of_mem_allNews {g h : Heap} {L : Addr} {p : Addr × Obj} (hp : p ∈ allNews g h L) : p.1 ≠ L ∧ g.get? p.1 = none ∧ h.get? p.1 = some p.2 := by
  obtain ⟨b, _, e⟩ := List.mem_filterMap.mp hp
  split at e
  · cases e
  · rename_i hn
    cases q : h.get? b with
    | none => rw [q] at e; simp at e
    | some u =>
      rw [q] at e
      simp only [Option.map_some, Option.some.injEq] at e
      subst e
      refine ⟨fun z => hn (.inl z), ?_, q⟩
      show g.get? b = none
      cases r : g.get? b with
      | none => rfl
      | some v => exact (hn (.inr (by simp [r]))).elim
def rest (g h : Heap) (L d : Addr) : List (Addr × Obj) := (allNews g h L).filter fun p => decide (p.1 ≠ d)
theorem rest_ne {g h : Heap} {L d : Addr} : ∀ p ∈ rest g h L d, p.1 ≠ d := fun p hp => of_decide_eq_true (List.mem_filter.mp hp).2
theorem mem_rest {g h : Heap} {L d a : Addr} {o : Obj} (h1 : a ≠ L) (h2 : g.get? a = none) (h3 : h.get? a = some o) (h4 : a ≠ d) : (a, o) ∈ rest g h L d :=
  List.mem_filter.mpr ⟨mem_allNews h1 h2 h3, decide_eq_true h4⟩
theorem news_all {g h : Heap} {L : Addr} : News g L h (allNews g h L) := fun p hp => let ⟨a, b, c⟩ := of_mem_allNews hp; ⟨c, a, b⟩
theorem news_at {g h : Heap} {L d : Addr} {o : Obj} (h1 : d ≠ L) (h2 : g.get? d = none) (h3 : h.get? d = some o) : News g L h ((d, o) :: rest g h L d) := fun p hp => by
  rcases List.mem_cons.mp hp with rfl | hp
  · exact ⟨h3, h1, h2⟩
  · exact news_all p (List.mem_filter.mp hp).1
/-- behind a rule that changed d alone: all else but the frame is kept -/
theorem kept_of_news {g h h' : Heap} {L d : Addr} {m : Str → Option Value} (k : ∀ b o, g.get? b = some o → h.get? b = some o) (F : Fr g L h' m) (N : News g L h' (rest g h L d)) :
    ∀ b o, b ≠ L → b ≠ d → h.get? b = some o → h'.get? b = some o := fun b o h1 h2 e => by
  cases q : g.get? b with
  | some u =>
    have := k b u q
    rw [e] at this; cases this
    exact F.keep b _ q
  | none => exact (N (b, o) (mem_rest h1 q e h2)).1
end L2

namespace L2
open PySem PySem.Spec PyProof.Rows

/-- the module's facts, over the base: the heap at the law's entry without what is tracked there -/
structure Mod (K : PySem.W.Frag) (mg : Str → Option Value) (base : Heap) : Prop where
  kin : K.In base
  glob : base.Ns mainGlobals mg
  blt : ∃ mb, base.Ns builtinsNs mb ∧ ∀ x : Str, x ≠ "__name__" → mb x = bootBuiltins x
  nolimit : base.NoLimit

/-- the context: a def's body (or a comprehension's block) running. base: fixed through the whole law; s₀, H₀: the entry; outer: the frames whose slots others may change (a def's callers); stack: all frames that run;
   ex: iterators that were made ahead of the entry and are walked here (a comprehension's); fn: the names whose cells were made at the entry (a def: all; a comprehension's block: its own); calm: not within an except suite; pn: pins that every state bears; xe: what is wanted of an exception that leaves the code -/
structure Cx where
  prog : Program
  w : World
  K : PySem.W.Frag
  mg : Str → Option Value
  base : Heap
  A : Around
  N : List Str
  s_0 : Shared
  H_0 : Hp
  env : Env
  outer : List Env
  stack : List Env
  ex : List Addr
  fn : Str → Bool
  calm : Bool
  pn : List (Addr × Obj)
  xe : Value → Shared → Prop
/-- the callers' frames -/
def frs (l : List Env) : List Addr := l.filterMap (·.frame)
abbrev Cx.fs (X : Cx) : List Addr := frs X.outer

def Vis (sc : Scope) (x : Str) : Prop := sc.names.lookup x = some .local ∨ sc.names.lookup x = some .cell ∨ sc.names.lookup x = some .free
def Loc (sc : Scope) (x : Str) : Prop := sc.names.lookup x = some .local ∨ sc.names.lookup x = some .cell
def Look (env : Env) (h : Heap) (m : Str → Option Value) (x : Str) (u : Value) : Prop :=
  (env.kindOf x = some .local ∧ m x = some u) ∨ ((env.kindOf x = some .cell ∨ env.kindOf x = some .free) ∧ ∃ c, env.cells.lookup x = some c ∧ h.IsCell c (some u))

structure Cx.Ok (X : Cx) : Prop where
  mod : Mod X.K X.mg X.base
  kind : X.env.scope.kind = .function
  glob : X.env.globals = mainGlobals
  blt : X.env.builtins = builtinsNs
  above : X.s_0.heap.objs.size ≤ X.env.locals
  inj : ∀ x y c, X.env.cells.lookup x = some c → X.env.cells.lookup y = some c → x = y
  has : ∀ x, (X.env.kindOf x = some .cell ∨ X.env.kindOf x = some .free) → ∃ c, X.env.cells.lookup x = some c
  cab : ∀ x c, X.fn x = true → X.env.cells.lookup x = some c → X.s_0.heap.objs.size ≤ c
  hd : X.calm = true → X.A.handled = none
  frames : X.A.frames = some X.stack
  stk : X.stack = X.outer ∨ (X.stack = X.env :: X.outer ∧ X.env.frame = some X.env.locals)
  exf : ∀ b ∈ X.ex, b ≠ X.env.locals ∧ ∀ x c, X.env.cells.lookup x = some c → c ≠ b
  bs : ∀ b o, X.base.get? b = some o → X.s_0.heap.get? b = some o ∧ X.H_0 b = none
  bsz : X.base.objs.size ≤ X.s_0.heap.objs.size
  noex : ∀ b o, X.base.get? b = some o → b ∉ X.ex
  exfs : ∀ b ∈ X.ex, b ∉ X.fs
  funs : X.s_0.heap.FunFrames X.base X.outer
  frf : ∀ b ∈ X.fs, X.H_0 b = none

structure Inv (X : Cx) (pins : List (Addr × Obj)) (σ : List (Option V)) (H : Hp) (s : Shared) : Prop where
  ok : X.Ok
  os : s.os = X.s_0.os
  bare : AllBare s.gens
  base : Un X.fs X.ex X.H_0 H X.s_0.heap s.heap
  loc : ∃ m, s.heap.Ns X.env.locals m ∧ ∀ (i : Nat) (x : Str) (v : V), X.N[i]? = some x → σ[i]? = some (some v) → Vis X.env.scope x → ∃ u, RelV v u ∧ Look X.env s.heap m x u
  cell : ∀ x c, X.env.cells.lookup x = some c → ∃ v, s.heap.IsCell c v
  free : H X.env.locals = none
  freeC : ∀ x c, X.env.cells.lookup x = some c → H c = none
  pin : ∀ p ∈ X.pn ++ pins, s.heap.get? p.1 = some p.2 ∧ H p.1 = none ∧ p.1 ≠ X.env.locals ∧ p.1 ∉ X.fs ∧ ∀ v, p.2.data ≠ .cell v
  hok : HOk X.prog X.w H s.heap
  len : σ.length = X.N.length

section
variable {X : Cx} {pins : List (Addr × Obj)} {σ : List (Option V)} {H H' : Hp} {s : Shared} {h' : Heap}

theorem Cx.Ok.nofr (ok : X.Ok) {b : Addr} {o : Obj} (e : X.base.get? b = some o) : b ∉ X.fs := fun hb => by
  have := (ok.funs.mem hb).1
  rw [e] at this; cases this
theorem Inv.bs (I : Inv X pins σ H s) : ∀ b o, X.base.get? b = some o → s.heap.get? b = some o ∧ H b = none := fun b o e =>
  ⟨I.base.keep b o (I.ok.bs b o e).1 (I.ok.bs b o e).2 (I.ok.nofr e) (I.ok.noex b o e), I.base.free b o (I.ok.bs b o e).1 (I.ok.bs b o e).2 (I.ok.noex b o e)⟩
theorem Inv.bk (I : Inv X pins σ H s) : ∀ b o, X.base.get? b = some o → s.heap.get? b = some o := fun b o e => (I.bs b o e).1
theorem Inv.mod (I : Inv X pins σ H s) : Mod X.K X.mg X.base := I.ok.mod
theorem Inv.kIn (I : Inv X pins σ H s) : X.K.In s.heap := I.ok.mod.kin.keeps I.bk
theorem Inv.nolimit (I : Inv X pins σ H s) : s.heap.NoLimit := I.ok.mod.nolimit.keeps I.bk
/-- the frame over the base: for OpenK's rules (K.In X.base is I.mod.kin) -/
theorem Inv.fr (I : Inv X pins σ H s) : ∃ m, Fr X.base X.env.locals s.heap m :=
  let ⟨m, hn, _⟩ := I.loc
  ⟨m, hn, I.bk, Nat.le_trans I.ok.bsz I.ok.above⟩
theorem Inv.lt (I : Inv X pins σ H s) : X.env.locals < s.heap.objs.size := let ⟨_, hn, _⟩ := I.loc; hn.lt
theorem Inv.sz (I : Inv X pins σ H s) : X.s_0.heap.objs.size ≤ s.heap.objs.size := Nat.le_trans I.ok.above (Nat.le_of_lt I.lt)
theorem Inv.nofs (I : Inv X pins σ H s) {a : Addr} (h : s.heap.objs.size ≤ a) : a ∉ X.fs := fun hb => by
  obtain ⟨_, o, ho, _⟩ := I.ok.funs.mem hb
  exact absurd (Nat.lt_of_lt_of_le (Heap.lt_size ho) (Nat.le_trans I.sz h)) (Nat.lt_irrefl _)
theorem Inv.cne (I : Inv X pins σ H s) : ∀ x c, X.env.cells.lookup x = some c → c ≠ X.env.locals := fun x c e z => by
  obtain ⟨v, o, ho, hd⟩ := I.cell x c e
  obtain ⟨m, ⟨o', es, ep, ho', hd', _⟩, _⟩ := I.loc
  rw [z, ho'] at ho; cases ho; rw [hd'] at hd; cases hd
theorem Inv.funs (I : Inv X pins σ H s) : s.heap.FunFrames X.base X.outer := by
  have all : ∀ (l : List Env), (∀ b ∈ frs l, b ∈ X.fs) → X.s_0.heap.FunFrames X.base l → s.heap.FunFrames X.base l := by
    intro l
    induction l with
    | nil => intro _ _; trivial
    | cons env r ih =>
      intro hs hl
      obtain ⟨hk, ⟨L, o, hf, hn, ho, hd⟩, hr⟩ := hl
      have hL : L ∈ X.fs := hs L (by unfold frs; rw [List.filterMap_cons, hf]; exact List.mem_cons_self)
      obtain ⟨sl, e⟩ := I.base.slot L o ho (I.ok.frf L hL) hL fun z => I.ok.exfs L z hL
      exact ⟨hk, ⟨L, _, hf, hn, e, hd⟩, ih (fun b hb => hs b (by unfold frs; rw [List.filterMap_cons, hf]; exact List.mem_cons_of_mem _ hb)) hr⟩
  exact all X.outer (fun _ hb => hb) I.ok.funs

/-- the frames that run, for a call -/
theorem Inv.stack (I : Inv X pins σ H s) : s.heap.FunFrames X.base X.stack := by
  rcases I.ok.stk with e | ⟨e, hf⟩
  · rw [e]; exact I.funs
  · rw [e]
    obtain ⟨m, hn, _⟩ := I.loc
    refine .cons (by rw [I.ok.kind]; decide) hf hn ?_ I.funs
    exact Heap.get?_none_of_le (Nat.le_trans I.ok.bsz I.ok.above)
theorem Inv.stkSub (I : Inv X pins σ H s) : ∀ b ∈ frs X.stack, b ∈ X.env.locals :: X.fs := fun b hb => by
  rcases I.ok.stk with e | ⟨e, hf⟩
  · rw [e] at hb; exact List.mem_cons_of_mem _ hb
  · rw [e] at hb
    unfold frs at hb
    rw [List.filterMap_cons, hf] at hb
    exact hb
theorem Inv.stkFree (I : Inv X pins σ H s) : ∀ b ∈ frs X.stack, H b = none := fun b hb => by
  rcases List.mem_cons.mp (I.stkSub b hb) with e | hb
  · rw [e]; exact I.free
  · obtain ⟨_, o, ho, _⟩ := I.ok.funs.mem hb
    exact I.base.free b o ho (I.ok.frf b hb) fun z => I.ok.exfs b z hb

/-- THE STEP: the untracked objects but the frame and the records at ch are kept (the callers' frames up to slots), the frame's map is kept, the new abstract heap is held -/
theorem Inv.step {g' : Array GenState} {t' : Nat} {d' : Drawn} {ch : List Addr} (I : Inv X pins σ H s)
    (hch : ∀ b ∈ ch, (b ∈ X.ex ∨ X.s_0.heap.objs.size ≤ b) ∧ b ≠ X.env.locals ∧ (∀ x c, X.env.cells.lookup x = some c → c ≠ b) ∧ ∀ p ∈ X.pn ++ pins, p.1 ≠ b)
    (keep : ∀ b o, b ≠ X.env.locals → b ∉ X.fs → b ∉ ch → s.heap.get? b = some o → H b = none → h'.get? b = some o)
    (slot : ∀ b o, b ≠ X.env.locals → b ∈ X.fs → b ∉ ch → s.heap.get? b = some o → H b = none → ∃ sl, h'.get? b = some { o with slots := sl }) (free : ∀ b o, b ∉ ch → s.heap.get? b = some o → H b = none → H' b = none)
    (there : ∀ b o, b ∉ ch → s.heap.get? b = some o → ∃ o', h'.get? b = some o')
    (tups : ∀ b xs, H b = some (.tup xs) → H' b = some (.tup xs)) (frzs : ∀ b o u, H b = some (.frz o u) → H' b = some (.frz o u)) (tbls : ∀ b ps, H b = some (.tbl ps) → ∃ more, H' b = some (.tbl (ps ++ more)))
    (ns : ∀ m, s.heap.Ns X.env.locals m → h'.Ns X.env.locals m) (hok : HOk X.prog X.w H' h') (hg : AllBare g') :
    Inv X pins σ H' { s with heap := h', gens := g', drawn := d', toks := t' } := by
  have neL : ∀ b o, X.s_0.heap.get? b = some o → b ≠ X.env.locals := fun b o e => Nat.ne_of_lt (Nat.lt_of_lt_of_le (Heap.lt_size e) I.ok.above)
  have neC : ∀ b o, X.s_0.heap.get? b = some o → b ∉ X.ex → b ∉ ch := fun b o e hx hb => by
    rcases (hch b hb).1 with z | z
    · exact hx z
    · exact absurd (Nat.lt_of_lt_of_le (Heap.lt_size e) z) (Nat.lt_irrefl _)
  have cellK : ∀ x c, X.env.cells.lookup x = some c → ∀ v, s.heap.IsCell c v → h'.IsCell c v := fun x c e v ⟨o, ho, hd⟩ => by
    have nch : c ∉ ch := fun z => (hch c z).2.2.1 x c e rfl
    by_cases hc : c ∈ X.fs
    · obtain ⟨sl, q⟩ := slot c o (I.cne x c e) hc nch ho (I.freeC x c e)
      exact ⟨_, q, hd⟩
    · exact ⟨o, keep c o (I.cne x c e) hc nch ho (I.freeC x c e), hd⟩
  refine ⟨I.ok, I.os, hg, ⟨fun b o e n hb hx => ?_, fun b o e n hb hx => ?_, fun b o e n hx => ?_, fun b o e hx => ?_, fun b xs e => tups b xs (I.base.tups b xs e), fun b o xs e => frzs b o xs (I.base.frzs b o xs e), fun b ps e => ?_⟩, ?_, fun x c e => ?_, ?_, fun x c e => ?_, fun p hp => ?_, hok, I.len⟩
  · exact keep b o (neL b o e) hb (neC b o e hx) (I.base.keep b o e n hb hx) (I.base.free b o e n hx)
  · obtain ⟨sl, e1⟩ := I.base.slot b o e n hb hx
    obtain ⟨sl', e2⟩ := slot b _ (neL b o e) hb (neC b o e hx) e1 (I.base.free b o e n hx)
    exact ⟨sl', e2⟩
  · obtain ⟨o', e1⟩ := I.base.there b o e hx
    exact free b o' (neC b o e hx) e1 (I.base.free b o e n hx)
  · obtain ⟨o', e1⟩ := I.base.there b o e hx
    exact there b o' (neC b o e hx) e1
  · obtain ⟨m1, e1⟩ := I.base.tbls b ps e
    obtain ⟨m2, e2⟩ := tbls b _ e1
    exact ⟨m1 ++ m2, by rw [e2, Array.append_assoc]⟩
  · obtain ⟨m, hn, hl⟩ := I.loc
    refine ⟨m, ns m hn, fun i x v e1 e2 e3 => ?_⟩
    obtain ⟨u, r, l⟩ := hl i x v e1 e2 e3
    refine ⟨u, r, ?_⟩
    rcases l with l | ⟨k, c, e, z⟩
    · exact .inl l
    · exact .inr ⟨k, c, e, cellK x c e _ z⟩
  · obtain ⟨v, z⟩ := I.cell x c e
    exact ⟨v, cellK x c e v z⟩
  · obtain ⟨m, ⟨o, _, _, ho, _⟩, _⟩ := I.loc
    exact free _ o (fun z => (hch _ z).2.1 rfl) ho I.free
  · obtain ⟨v, o, ho, hd⟩ := I.cell x c e
    exact free c o (fun z => (hch c z).2.2.1 x c e rfl) ho (I.freeC x c e)
  · obtain ⟨e, n, ne, nf, d⟩ := I.pin p hp
    have nch : p.1 ∉ ch := fun z => (hch p.1 z).2.2.2 p hp rfl
    exact ⟨keep p.1 p.2 ne nf nch e n, free p.1 p.2 nch e n, ne, nf, d⟩
/-- .. where the frame's own object is kept too -/
theorem Inv.un {t' : Nat} (I : Inv X pins σ H s) (u : Un X.fs [] H H' s.heap h') (hok : HOk X.prog X.w H' h') : Inv X pins σ H' { s with heap := h', toks := t' } := by
  obtain ⟨m, ⟨o, es, ep, ho, r⟩, _⟩ := id I.loc
  obtain ⟨sl, hL⟩ := u.any ho I.free (by simp)
  exact I.step (g' := s.gens) (d' := s.drawn) (ch := []) (fun _ z => nomatch z) (fun b o _ hb _ e n => u.keep b o e n hb (by simp)) (fun b o _ hb _ e n => u.slot b o e n hb (by simp)) (fun b o _ e n => u.free b o e n (by simp)) (fun b o _ e => u.there b o e (by simp)) u.tups u.frzs u.tbls (fun m' hm => by
    obtain ⟨o', es', ep', ho', r'⟩ := hm
    rw [ho] at ho'; cases ho'
    exact ⟨_, es', ep', hL, r'⟩) hok I.bare
/-- behind a call (or a comprehension's block): the slots of this frame may have changed too, the records at ch may have turned -/
theorem Inv.call {g' : Array GenState} {t' : Nat} {d' : Drawn} {ch : List Addr} (I : Inv X pins σ H s) (u : Un (frs X.stack) ch H H' s.heap h') (hok : HOk X.prog X.w H' h') (hg : AllBare g')
    (hch : ∀ b ∈ ch, (b ∈ X.ex ∨ X.s_0.heap.objs.size ≤ b) ∧ b ≠ X.env.locals ∧ (∀ x c, X.env.cells.lookup x = some c → c ≠ b) ∧ ∀ p ∈ X.pn ++ pins, p.1 ≠ b) :
    Inv X pins σ H' { s with heap := h', gens := g', drawn := d', toks := t' } := by
  obtain ⟨m, ⟨o, es, ep, ho, r⟩, _⟩ := id I.loc
  obtain ⟨sl, hL⟩ := u.any ho I.free fun z => (hch _ z).2.1 rfl
  exact I.step (ch := ch) hch (fun b o hL hb hc e n => u.keep b o e n (fun z => (List.mem_cons.mp (I.stkSub b z)).elim hL hb) hc) (fun b o _ _ hc e n => u.any e n hc) (fun b o hc e n => u.free b o e n hc) (fun b o hc e => u.there b o e hc) u.tups u.frzs u.tbls (fun m' hm => by
    obtain ⟨o', es', ep', ho', r'⟩ := hm
    rw [ho] at ho'; cases ho'
    exact ⟨_, es', ep', hL, r'⟩) hok hg
/-- an untracked record of ours (an iterator) has turned -/
theorem Inv.turned {t' : Nat} {it : Addr} (I : Inv X pins σ H s) (k : ∀ b o, b ≠ it → s.heap.get? b = some o → h'.get? b = some o) (hn : H it = none) (hL : it ≠ X.env.locals)
    (h1 : it ∈ X.ex ∨ X.s_0.heap.objs.size ≤ it) (h2 : ∀ x c, X.env.cells.lookup x = some c → c ≠ it) (h3 : ∀ p ∈ X.pn ++ pins, p.1 ≠ it) : Inv X pins σ H { s with heap := h', toks := t' } := by
  have nit : ∀ b u, H b = some u → b ≠ it := fun b u e z => by rw [z, hn] at e; cases e
  refine I.step (g' := s.gens) (d' := s.drawn) (ch := [it]) (fun b hb => ?_) (fun b o _ _ hc e _ => k b o (fun z => hc (by simp [z])) e) (fun b o _ _ hc e _ => ⟨o.slots, k b o (fun z => hc (by simp [z])) e⟩) (fun _ _ _ _ n => n)
    (fun b o hc e => ⟨o, k b o (fun z => hc (by simp [z])) e⟩) (fun _ _ e => e) (fun _ _ _ e => e) (fun b ps e => ⟨#[], by rw [e]; simp⟩) (fun m hm => ?_) (fun b u e => ?_) I.bare
  · have e : b = it := by simpa using hb
    subst e
    exact ⟨h1, hL, h2, h3⟩
  · obtain ⟨o, es, ep, ho, r⟩ := hm
    exact ⟨o, es, ep, k _ o (Ne.symm hL) ho, r⟩
  · refine (I.hok b u e).stay (fun c v hc q => k c v ?_ q) (fun _ q => q) fun _ _ q => q
    rcases hc with z | z
    · rw [z]; exact nit b u e
    · exact nit c _ z
theorem Inv.tok (I : Inv X pins σ H s) (t : Nat) : Inv X pins σ H { s with toks := t } := I.un (h' := s.heap) (t' := t) Un.refl I.hok
/-- all objects kept -/
theorem Inv.kept {t' : Nat} (I : Inv X pins σ H s) (k : ∀ b u, s.heap.get? b = some u → h'.get? b = some u) : Inv X pins σ H { s with heap := h', toks := t' } := I.un (Un.kept k) (I.hok.kept k)
/-- a new object laid and tracked -/
theorem Inv.laid {a : Addr} {o : HO} {t' : Nat} (I : Inv X pins σ H s) (k : ∀ b u, s.heap.get? b = some u → h'.get? b = some u) (hp : s.heap.objs.size ≤ a) (new : ObjOk X.prog X.w (upd H a o) h' a o) :
    Inv X pins σ (upd H a o) { s with heap := h', toks := t' } := I.un (Un.laid k hp (I.hok.fresh hp)) (I.hok.laid k hp new)
/-- an object written -/
theorem Inv.write {x e : Addr} {o : HO} {t' : Nat} (I : Inv X pins σ H s) (mu : Mut (H x)) (he : e = x ∨ H e = some (.own x)) (k : ∀ b u, b ≠ e → s.heap.get? b = some u → h'.get? b = some u) (heo : ∃ u, h'.get? e = some u)
    (new : ObjOk X.prog X.w (upd H x o) h' x o) : Inv X pins σ (upd H x o) { s with heap := h', toks := t' } := I.un (Un.write mu he k heo) (I.hok.write mu he k heo new)
/-- forgetting slots, pins -/
theorem Inv.weak {σ' : List (Option V)} (I : Inv X pins σ H s) (hl : σ'.length = σ.length) (w : ∀ (i : Nat) v, σ'[i]? = some (some v) → σ[i]? = some (some v)) : Inv X pins σ' H s :=
  ⟨I.ok, I.os, I.bare, I.base, let ⟨m, hn, hl'⟩ := I.loc; ⟨m, hn, fun i x v e1 e2 e3 => hl' i x v e1 (w i v e2) e3⟩, I.cell, I.free, I.freeC, I.pin, I.hok, hl.trans I.len⟩
theorem Inv.pins_of {pins' : List (Addr × Obj)} (I : Inv X pins σ H s) (h : ∀ p ∈ pins', s.heap.get? p.1 = some p.2 ∧ H p.1 = none ∧ p.1 ≠ X.env.locals ∧ p.1 ∉ X.fs ∧ ∀ v, p.2.data ≠ .cell v) : Inv X pins' σ H s :=
  ⟨I.ok, I.os, I.bare, I.base, I.loc, I.cell, I.free, I.freeC, fun p hp => (List.mem_append.mp hp).elim (fun z => I.pin p (List.mem_append_left _ z)) (h p), I.hok, I.len⟩

theorem nodup_ix {N : List Str} (hN : N.Nodup) {i j : Nat} {x : Str} (a : N[i]? = some x) (b : N[j]? = some x) : i = j := by
  obtain ⟨h1, e1⟩ := List.getElem?_eq_some_iff.mp a
  obtain ⟨h2, e2⟩ := List.getElem?_eq_some_iff.mp b
  exact (List.getElem_inj hN).mp (e1.trans e2.symm)

/-- a name is stored; what changed -/
theorem store_ok2 {M : Model} {A : Around} {E : Value → Shared → Prop} {i : Nat} {x : Str} {v : V} {u : Value} {Q : Unit → Shared → Prop} (I : Inv X pins σ H s) (hN : X.N.Nodup) (hi : X.N[i]? = some x) (hx : Loc X.env.scope x) (r : RelV v u)
    (h : ∀ s', Inv X pins (σ.set i (some v)) H s' → (∃ a, Heap.SameBut a s.heap s'.heap ∧ (a = X.env.locals ∨ X.env.cells.lookup x = some a)) → Q () s') (hf : X.fn x = true ∨ X.env.scope.names.lookup x = some .local := by first | exact .inl rfl | exact .inr rfl | assumption) : wpAny M A (storeName X.env x u) Q E s := by
  obtain ⟨m, hn, hl⟩ := id I.loc
  have hcls : (X.env.scope.kind == .class || (X.env.scope.kind == .module && X.env.locals != X.env.globals)) = false := by rw [I.ok.kind]; rfl
  have hiσ : i < σ.length := by rw [I.len]; exact (List.getElem?_eq_some_iff.mp hi).1
  have cne := I.cne
  have tracked : ∀ {a : Addr} {h' : Heap}, (∃ o, s.heap.get? a = some o ∧ H a = none) → Heap.SameBut a s.heap h' → HOk X.prog X.w H h' := fun {a h'} ha hs b ob e => by
    obtain ⟨_, _, hfree⟩ := ha
    refine (I.hok b ob e).stay (fun c w' hc q => (hs.2 c ?_).trans q) (fun _ q => q) fun _ _ q => q
    rintro rfl
    rcases hc with rfl | hc
    · rw [hfree] at e; cases e
    · rw [hfree] at hc; cases hc
  rcases hx with hk | hk
  · refine wpAny_storeName_local hk hn (fun h' hn' hs => ?_) hcls
    obtain ⟨oL, _, _, hoL, _⟩ := id hn
    refine h _ ⟨I.ok, I.os, I.bare, ⟨fun b o e n hb hx => ?_, fun b o e n hb hx => ?_, I.base.free, fun b o e hx => ?_, I.base.tups, I.base.frzs, I.base.tbls⟩, ⟨_, hn', fun j y v' e1 e2 e3 => ?_⟩, fun y c e => ?_, I.free, I.freeC, fun p hp => ?_, tracked ⟨oL, hoL, I.free⟩ hs, by simpa using I.len⟩ ⟨_, hs, .inl rfl⟩
    · exact (hs.2 b (Nat.ne_of_lt (Nat.lt_of_lt_of_le (Heap.lt_size e) I.ok.above))).trans (I.base.keep b o e n hb hx)
    · obtain ⟨sl, e1⟩ := I.base.slot b o e n hb hx
      exact ⟨sl, (hs.2 b (Nat.ne_of_lt (Nat.lt_of_lt_of_le (Heap.lt_size e) I.ok.above))).trans e1⟩
    · obtain ⟨o', e1⟩ := I.base.there b o e hx
      exact ⟨o', (hs.2 b (Nat.ne_of_lt (Nat.lt_of_lt_of_le (Heap.lt_size e) I.ok.above))).trans e1⟩
    · by_cases hj : j = i
      · subst hj
        rw [hi] at e1; cases e1
        rw [List.getElem?_set_self hiσ] at e2
        cases e2
        exact ⟨u, r, .inl ⟨hk, by simp⟩⟩
      · rw [List.getElem?_set_ne (Ne.symm hj)] at e2
        obtain ⟨u', r', q⟩ := hl j y v' e1 e2 e3
        refine ⟨u', r', ?_⟩
        rcases q with ⟨k, e⟩ | ⟨k, c, e, z⟩
        · refine .inl ⟨k, ?_⟩
          have : y ≠ x := fun e => hj (nodup_ix hN e1 (e ▸ hi))
          simp [this, e]
        · exact .inr ⟨k, c, e, z.sameBut hs (cne y c e)⟩
    · obtain ⟨w', z⟩ := I.cell y c e
      exact ⟨w', z.sameBut hs (cne y c e)⟩
    · obtain ⟨e, n, ne, nf, d⟩ := I.pin p hp
      exact ⟨(hs.2 p.1 ne).trans e, n, ne, nf, d⟩
  · have hfn : X.fn x = true := by
      rcases hf with z | z
      · exact z
      · rw [z] at hk; cases hk
    obtain ⟨c, hc⟩ := I.ok.has x (.inl hk)
    obtain ⟨w', z⟩ := I.cell x c hc
    refine wpAny_storeName_cell I.ok.kind hk hc z (fun h' hc' hs => ?_)
    obtain ⟨oc, hoc, hocd⟩ := id z
    refine h { s with heap := h' } ⟨I.ok, I.os, I.bare, ⟨fun b o e n hb hx => ?_, fun b o e n hb hx => ?_, I.base.free, fun b o e hx => ?_, I.base.tups, I.base.frzs, I.base.tbls⟩, ⟨m, hn.sameBut hs (Ne.symm (cne x c hc)), fun j y v' e1 e2 e3 => ?_⟩, fun y c' e => ?_, I.free, I.freeC, fun p hp => ?_, tracked ⟨oc, hoc, I.freeC x c hc⟩ hs, by simpa using I.len⟩ ⟨c, hs, .inr hc⟩
    · exact (hs.2 b (Nat.ne_of_lt (Nat.lt_of_lt_of_le (Heap.lt_size e) (I.ok.cab x c hfn hc)))).trans (I.base.keep b o e n hb hx)
    · obtain ⟨sl, e1⟩ := I.base.slot b o e n hb hx
      exact ⟨sl, (hs.2 b (Nat.ne_of_lt (Nat.lt_of_lt_of_le (Heap.lt_size e) (I.ok.cab x c hfn hc)))).trans e1⟩
    · obtain ⟨o', e1⟩ := I.base.there b o e hx
      exact ⟨o', (hs.2 b (Nat.ne_of_lt (Nat.lt_of_lt_of_le (Heap.lt_size e) (I.ok.cab x c hfn hc)))).trans e1⟩
    · by_cases hj : j = i
      · subst hj
        rw [hi] at e1; cases e1
        rw [List.getElem?_set_self hiσ] at e2
        cases e2
        exact ⟨u, r, .inr ⟨.inl hk, c, hc, hc'⟩⟩
      · rw [List.getElem?_set_ne (Ne.symm hj)] at e2
        obtain ⟨u', r', q⟩ := hl j y v' e1 e2 e3
        refine ⟨u', r', ?_⟩
        rcases q with q | ⟨k, c', e, z'⟩
        · exact .inl q
        · refine .inr ⟨k, c', e, z'.sameBut hs ?_⟩
          rintro rfl
          exact hj (nodup_ix hN e1 (I.ok.inj _ _ _ e hc ▸ hi))
    · by_cases hcc : c' = c
      · subst hcc; exact ⟨_, hc'⟩
      · obtain ⟨w2, z2⟩ := I.cell y c' e
        exact ⟨w2, z2.sameBut hs hcc⟩
    · obtain ⟨e, n, ne, nf, d⟩ := I.pin p hp
      refine ⟨(hs.2 p.1 ?_).trans e, n, ne, nf, d⟩
      intro q
      rw [q, hoc] at e
      have q' : oc = p.2 := Option.some.inj e
      exact d w' (by rw [← q']; exact hocd)
theorem store_ok {M : Model} {A : Around} {E : Value → Shared → Prop} {i : Nat} {x : Str} {v : V} {u : Value} {Q : Unit → Shared → Prop} (I : Inv X pins σ H s) (hN : X.N.Nodup) (hi : X.N[i]? = some x) (hx : Loc X.env.scope x) (r : RelV v u)
    (h : ∀ s', Inv X pins (σ.set i (some v)) H s' → Q () s') (hf : X.fn x = true ∨ X.env.scope.names.lookup x = some .local := by first | exact .inl rfl | exact .inr rfl | assumption) : wpAny M A (storeName X.env x u) Q E s :=
  store_ok2 I hN hi hx r (fun s' I' _ => h s' I') hf
/-- behind a call or a block, the state as it is -/
theorem Inv.call' {s' : Shared} {ch : List Addr} (I : Inv X pins σ H s) (ho : s'.os = s.os) (u : Un (frs X.stack) ch H H' s.heap s'.heap) (hok : HOk X.prog X.w H' s'.heap) (hg : AllBare s'.gens)
    (hch : ∀ b ∈ ch, (b ∈ X.ex ∨ X.s_0.heap.objs.size ≤ b) ∧ b ≠ X.env.locals ∧ (∀ x c, X.env.cells.lookup x = some c → c ≠ b) ∧ ∀ p ∈ X.pn ++ pins, p.1 ≠ b) : Inv X pins σ H' s' := by
  obtain ⟨h', g', d', t', o'⟩ := s'
  have e : o' = s.os := ho
  subst e
  exact I.call (g' := g') (t' := t') (d' := d') u hok hg hch
end

/-! ### the judgements -/
/-- an exception: its class, its own dict's address (where it has one), the abstract heap behind it -/
abbrev XK := Value → Option Addr → Hp → Prop
abbrev St := List (Option V)
abbrev VK := V → Hp → Prop
/-- an expression's reading; a test's; an argument list's -/
abbrev TE := St → Hp → VK → Prop
abbrev TT := St → Hp → (Bool → Hp → Prop) → Prop
abbrev TA := St → Hp → (List V → Hp → Prop) → Prop
/-- what is wanted behind a statement -/
structure Ends where
  nx : St → Hp → Prop
  rt : VK
  bk : St → Hp → Prop := fun _ _ => False
  ct : St → Hp → Prop := fun _ _ => False
abbrev TS := Ends → St → Hp → Prop

def EP (X : Cx) (pins : List (Addr × Obj)) (σ : St) (Q : VK) (u : Value) (s' : Shared) : Prop := ∃ v H', Inv X pins σ H' s' ∧ RelV v u ∧ Q v H'
def TP (X : Cx) (pins : List (Addr × Obj)) (σ : St) (Q : Bool → Hp → Prop) (b : Bool) (s' : Shared) : Prop := ∃ H', Inv X pins σ H' s' ∧ Q b H'
def AP (X : Cx) (pins : List (Addr × Obj)) (σ : St) (Q : List V → Hp → Prop) (us : List Value) (s' : Shared) : Prop := ∃ vs H', Inv X pins σ H' s' ∧ Vals vs us ∧ Q vs H'
def SP (X : Cx) (pins : List (Addr × Obj)) (D : Ends) (f : Flow) (s' : Shared) : Prop :=
  match f with
  | .next => ∃ σ' H', Inv X pins σ' H' s' ∧ D.nx σ' H'
  | .brk => ∃ σ' H', Inv X pins σ' H' s' ∧ D.bk σ' H'
  | .cont => ∃ σ' H', Inv X pins σ' H' s' ∧ D.ct σ' H'
  | .ret u => ∃ v σ' H', Inv X pins σ' H' s' ∧ RelV v u ∧ D.rt v H'

def PE (X : Cx) (e : Expr) (t : TE) : Prop :=
  ∀ (pins : List (Addr × Obj)) (s : Shared) (σ : St) (H : Hp) (Q : VK), Inv X pins σ H s → t σ H Q → wpAny (model X.prog X.w) X.A (eval e X.env) (EP X pins σ Q) X.xe s
def PT (X : Cx) (e : Expr) (t : TT) : Prop :=
  ∀ (pins : List (Addr × Obj)) (s : Shared) (σ : St) (H : Hp) (Q : Bool → Hp → Prop), Inv X pins σ H s → t σ H Q → wpAny (model X.prog X.w) X.A (isTrue e X.env (eval e X.env)) (TP X pins σ Q) X.xe s
/-- a test whatever its 'whole' is (and, or) -/
def PW (X : Cx) (e : Expr) (t : TT) : Prop :=
  ∀ (whole : Sem Value) (pins : List (Addr × Obj)) (s : Shared) (σ : St) (H : Hp) (Q : Bool → Hp → Prop), Inv X pins σ H s → t σ H Q → wpAny (model X.prog X.w) X.A (isTrue e X.env whole) (TP X pins σ Q) X.xe s
theorem PW.pt {X : Cx} {e : Expr} {t : TT} (h : PW X e t) : PT X e t := h _
/-- an argument list (no star), from the left -/
def PA (X : Cx) (es : List Expr) (t : TA) : Prop :=
  ∀ (pos : Pos) (pins : List (Addr × Obj)) (s : Shared) (σ : St) (H : Hp) (Q : List V → Hp → Prop), Inv X pins σ H s → t σ H Q → wpAny (model X.prog X.w) X.A (spliced (backTo pos (starEach es X.env))) (AP X pins σ Q) X.xe s
def PS (X : Cx) (st : Stmt) (t : TS) : Prop :=
  ∀ (pins : List (Addr × Obj)) (s : Shared) (σ : St) (H : Hp) (D : Ends), Inv X pins σ H s → t D σ H → wpAny (model X.prog X.w) X.A (exec st X.env) (SP X pins D) X.xe s
def PSs (X : Cx) (st : List Stmt) (t : TS) : Prop :=
  ∀ (pins : List (Addr × Obj)) (s : Shared) (σ : St) (H : Hp) (D : Ends), Inv X pins σ H s → t D σ H → wpAny (model X.prog X.w) X.A (execs st X.env) (SP X pins D) X.xe s
/-- weaken the end -/
theorem thn {α : Type} {t : Sem α} {Q Q' : α → Shared → Prop} {M : Model} {A : Around} {E : Value → Shared → Prop} {s : Shared} (h : wpAny M A t Q E s) (hQ : ∀ a s, Q a s → Q' a s) : wpAny M A t Q' E s := wpAny_mono h hQ fun _ _ x => x
end L2

namespace L2
open PySem PySem.Spec PyProof.Rows
section
variable {X : Cx}

/-- two expressions in a row -/
theorem bin {a b : Expr} {ta tb : TE} (ha : PE X a ta) (hb : PE X b tb) {pins : List (Addr × Obj)} {s : Shared} {σ : St} {H : Hp} {R : V → V → Hp → Prop} (I : Inv X pins σ H s) (h : ta σ H fun x H1 => tb σ H1 fun y H2 => R x y H2)
    {α : Type} {Q : α → Shared → Prop} {f : Value → Value → Sem α}
    (hf : ∀ v u s2 x y H2, Inv X pins σ H2 s2 → RelV x v → RelV y u → R x y H2 → wpAny (model X.prog X.w) X.A (f v u) Q X.xe s2) :
    wpAny (model X.prog X.w) X.A (eval a X.env) (fun v s₁ => wpAny (model X.prog X.w) X.A (eval b X.env) (fun u s₂ => wpAny (model X.prog X.w) X.A (f v u) Q X.xe s₂) X.xe s₁) X.xe s := by
  refine thn (ha pins s σ H _ I h) fun v s1 ⟨x, H1, I1, r1, q1⟩ => ?_
  refine thn (hb pins s1 σ H1 _ I1 q1) fun u s2 ⟨y, H2, I2, r2, q2⟩ => ?_
  exact hf v u s2 x y H2 I2 r1 r2 q2

/-! ### names and constants -/
def tVar (i : Nat) : TE := fun σ H Q => ∃ v, σ[i]? = some (some v) ∧ Q v H
def tC (v : V) : TE := fun _ H Q => Q v H
theorem pe_var {i : Nat} {x : Str} {pos : Pos} (hN : X.N[i]? = some x) (hv : Vis X.env.scope x) (hd : (x == ("__debug__" : Str)) = false := by decide) (hcd : (x == ("__classdict__" : Str)) = false := by decide) : PE X (.Name x pos) (tVar i) := by
  intro pins s σ H Q I h
  obtain ⟨v, e, h⟩ := h
  obtain ⟨m, hn, hl⟩ := I.loc
  obtain ⟨u, r, l⟩ := hl i x v hN e hv
  have fin : EP X pins σ Q u s := ⟨v, H, I, r, h⟩
  rcases l with ⟨hk, hm⟩ | ⟨hk, c, hc, hcell⟩
  · exact wpAny_Name (wpAny_loadName_local I.ok.kind hk hn hm fin) hd
  · rcases hk with hk | hk
    · exact wpAny_Name (wpAny_loadName_cell I.ok.kind hk hc hcell fin) hd
    · exact wpAny_Name (wpAny_loadName_free I.ok.kind hk hc hcell fin hcd) hd
theorem pe_int {i j pos} : PE X (.Constant (.int i) j pos) (tC (.int i)) := fun _ _ _ H _ I h => wpAny_Constant_int ⟨.int i, H, I.tok _, ⟨_, rfl⟩, h⟩
theorem pe_bl {b j pos} : PE X (.Constant (.bool b) j pos) (tC (.bl b)) := fun _ _ _ H _ I h => Constant_bool ⟨.bl b, H, I, rfl, h⟩
theorem pe_non {j pos} : PE X (.Constant .none j pos) (tC .non) := fun _ _ _ H _ I h => Constant_none ⟨.non, H, I, rfl, h⟩
theorem pe_str {x j pos} : PE X (.Constant (.str x) j pos) (tC (.str x)) := fun _ _ _ H _ I h => Calls.Constant_str ⟨.str x, H, I.tok _, ⟨_, rfl⟩, h⟩

/-- a global name of the def -/
def Gl (X : Cx) (x : Str) : Prop := X.env.kindOf x = some .globalImplicit
theorem ld_glob {E : Value → Shared → Prop} {pins : List (Addr × Obj)} {s : Shared} {σ : St} {H : Hp} {x : Str} {u : Value} {pos : Pos} {Q : Value → Shared → Prop} (I : Inv X pins σ H s) (hg : Gl X x) (hm : X.mg x = some u) (h : Q u s)
    (hd : (x == ("__debug__" : Str)) = false := by decide) : wpAny (model X.prog X.w) X.A (eval (.Name x pos) X.env) Q E s :=
  Calls.Name_function_global I.ok.kind hg (Calls.loadGlobal_global (by rw [I.ok.glob]; exact I.mod.glob.keeps I.bk) hm h) hd
theorem ld_blt {E : Value → Shared → Prop} {pins : List (Addr × Obj)} {s : Shared} {σ : St} {H : Hp} {x : Str} {u : Value} {pos : Pos} {Q : Value → Shared → Prop} (I : Inv X pins σ H s) (hg : Gl X x) (hm : X.mg x = none) (hv : bootBuiltins x = some u) (h : Q u s)
    (hn : x ≠ "__name__" := by decide) (hd : (x == ("__debug__" : Str)) = false := by decide) : wpAny (model X.prog X.w) X.A (eval (.Name x pos) X.env) Q E s := by
  obtain ⟨mb, h1, h2⟩ := I.mod.blt
  exact Calls.Name_function_global I.ok.kind hg (Calls.loadGlobal_builtin (by rw [I.ok.glob]; exact I.mod.glob.keeps I.bk) hm (by rw [I.ok.blt]; exact h1.keeps I.bk) ((h2 x hn).trans hv) h) hd
/-- a module's constant, a class, a function, as a value -/
theorem pe_glob {x : Str} {v : V} {u : Value} {pos : Pos} (hg : Gl X x) (hm : X.mg x = some u) (r : RelV v u) (hd : (x == ("__debug__" : Str)) = false := by decide) : PE X (.Name x pos) (tC v) :=
  fun _ _ _ H _ I h => ld_glob I hg hm ⟨v, H, I, r, h⟩ hd
theorem pe_bltn {x : Str} {v : V} {u : Value} {pos : Pos} (hg : Gl X x) (hm : X.mg x = none) (hv : bootBuiltins x = some u) (r : RelV v u) (hn : x ≠ "__name__" := by decide) (hd : (x == ("__debug__" : Str)) = false := by decide) : PE X (.Name x pos) (tC v) :=
  fun _ _ _ H _ I h => ld_blt I hg hm hv ⟨v, H, I, r, h⟩ hn hd

/-! ### arithmetic -/
/-- two ints -/
def t2I (ta tb : TE) (k : Int → Int → Hp → Prop) : St → Hp → Prop := fun σ H => ta σ H fun x H1 => tb σ H1 fun y H2 => ∃ i j, x = .int i ∧ y = .int j ∧ k i j H2
def tAdd (ta tb : TE) : TE := fun σ H Q => t2I ta tb (fun i j H2 => Q (.int (i + j)) H2) σ H
def tSub (ta tb : TE) : TE := fun σ H Q => t2I ta tb (fun i j H2 => Q (.int (i - j)) H2) σ H
/-- the left factor below 2^64 -/
def tMul (ta tb : TE) : TE := fun σ H Q => t2I ta tb (fun i j H2 => (-(2 ^ 64) < i ∧ i < 2 ^ 64) ∧ Q (.int (i * j)) H2) σ H
variable {a b : Expr} {ta tb : TE} {pos : Pos}
theorem pe_add (ha : PE X a ta) (hb : PE X b tb) : PE X (.BinOp a .Add b pos) (tAdd ta tb) := by
  intro pins s σ H Q I h
  refine wpAny_BinOp (bin ha hb I h fun v u s2 x y H2 I2 rx ry q => ?_)
  obtain ⟨i, j, rfl, rfl, q⟩ := q
  obtain ⟨t, rfl⟩ := rx
  obtain ⟨t', rfl⟩ := ry
  exact add_int ⟨.int _, H2, I2.tok _, ⟨_, rfl⟩, q⟩
theorem pe_sub (ha : PE X a ta) (hb : PE X b tb) : PE X (.BinOp a .Sub b pos) (tSub ta tb) := by
  intro pins s σ H Q I h
  refine wpAny_BinOp (bin ha hb I h fun v u s2 x y H2 I2 rx ry q => ?_)
  obtain ⟨i, j, rfl, rfl, q⟩ := q
  obtain ⟨t, rfl⟩ := rx
  obtain ⟨t', rfl⟩ := ry
  exact sub_int ⟨.int _, H2, I2.tok _, ⟨_, rfl⟩, q⟩
theorem pe_mul (ha : PE X a ta) (hb : PE X b tb) : PE X (.BinOp a .Mult b pos) (tMul ta tb) := by
  intro pins s σ H Q I h
  refine wpAny_BinOp (bin ha hb I h fun v u s2 x y H2 I2 rx ry q => ?_)
  obtain ⟨i, j, rfl, rfl, ⟨q1, q2⟩, q⟩ := q
  obtain ⟨t, rfl⟩ := rx
  obtain ⟨t', rfl⟩ := ry
  exact mul_int ⟨.int _, H2, I2.tok _, ⟨_, rfl⟩, q⟩ (.of_left (intBits_le_64 q1 q2))

/-! ### comparisons -/
def PC (X : Cx) (op : CmpOp) (a b : Expr) (t : TE) : Prop :=
  ∀ (pins : List (Addr × Obj)) (s : Shared) (σ : St) (H : Hp) (Q : VK), Inv X pins σ H s → t σ H Q →
    wpAny (model X.prog X.w) X.A (eval a X.env) (fun v s₁ => wpAny (model X.prog X.w) X.A (eval b X.env) (fun u s₂ => wpAny (model X.prog X.w) X.A (compareOp op v u) (EP X pins σ Q) X.xe s₂) X.xe s₁) X.xe s
theorem nobehind (b : Expr) {op : CmpOp} (h : op ≠ .In) (h2 : op ≠ .NotIn) : behindInMarks op b = false := by
  have e1 : (op == CmpOp.In) = false := by cases op <;> first | rfl | exact absurd rfl h
  have e2 : (op == CmpOp.NotIn) = false := by cases op <;> first | rfl | exact absurd rfl h2
  cases b <;> simp [behindInMarks, e1, e2]
def tCmp (p : Int → Int → Bool) (ta tb : TE) : TE := fun σ H Q => t2I ta tb (fun i j H2 => Q (.bl (p i j)) H2) σ H
abbrev tLt : TE → TE → TE := tCmp fun i j => decide (i < j)
abbrev tLe : TE → TE → TE := tCmp fun i j => decide (i ≤ j)
abbrev tGt : TE → TE → TE := tCmp fun i j => decide (j < i)
abbrev tGe : TE → TE → TE := tCmp fun i j => decide (j ≤ i)
abbrev tEqI : TE → TE → TE := tCmp fun i j => decide (i = j)
abbrev tNeI : TE → TE → TE := tCmp fun i j => !decide (i = j)
/-- a comparison of two ints, by its rule -/
theorem pc_int {op : CmpOp} {p : Int → Int → Bool} (ha : PE X a ta) (hb : PE X b tb)
    (rule : ∀ (i j : Int) (t u : Tok) (Q : Value → Shared → Prop) (s : Shared), Q (.bool (p i j)) s → wpAny (model X.prog X.w) X.A (compareOp op (.int i t) (.int j u)) Q X.xe s) : PC X op a b (tCmp p ta tb) := by
  intro pins s σ H Q I h
  refine bin ha hb I h fun v u s2 x y H2 I2 rx ry q => ?_
  obtain ⟨i, j, rfl, rfl, q⟩ := q
  obtain ⟨t, rfl⟩ := rx
  obtain ⟨t', rfl⟩ := ry
  exact rule i j t t' _ s2 ⟨.bl _, H2, I2, rfl, q⟩
theorem pc_lt (ha : PE X a ta) (hb : PE X b tb) : PC X .Lt a b (tLt ta tb) := pc_int ha hb fun _ _ _ _ _ _ h => lt_int h
theorem pc_le (ha : PE X a ta) (hb : PE X b tb) : PC X .LtE a b (tLe ta tb) := pc_int ha hb fun _ _ _ _ _ _ h => le_int h
theorem pc_gt (ha : PE X a ta) (hb : PE X b tb) : PC X .Gt a b (tGt ta tb) := pc_int ha hb fun _ _ _ _ _ _ h => gt_int h
theorem pc_ge (ha : PE X a ta) (hb : PE X b tb) : PC X .GtE a b (tGe ta tb) := pc_int ha hb fun _ _ _ _ _ _ h => ge_int h
theorem pc_eqI (ha : PE X a ta) (hb : PE X b tb) : PC X .Eq a b (tEqI ta tb) := pc_int ha hb fun _ _ _ _ _ _ h => eq_int (by rw [Bool.beq_eq_decide_eq]; exact h)
theorem pc_neI (ha : PE X a ta) (hb : PE X b tb) : PC X .NotEq a b (tNeI ta tb) := pc_int ha hb fun _ _ _ _ _ _ h => ne_int (by rw [bne, Bool.beq_eq_decide_eq]; exact h)
/-- is None -/
def tIsN (ta : TE) : TE := fun σ H Q => ta σ H fun x H1 => Q (.bl (decide (x = .non))) H1
def tNotN (ta : TE) : TE := fun σ H Q => ta σ H fun x H1 => Q (.bl (!decide (x = .non))) H1
theorem RelV.none_iff {x : V} {v : Value} (r : RelV x v) : (v == Value.none) = decide (x = .non) := by
  cases x with
  | non => cases r; rfl
  | bl _ => cases r; rfl
  | int _ => obtain ⟨t, rfl⟩ := r; rfl
  | str _ => obtain ⟨t, rfl⟩ := r; rfl
  | byt _ => obtain ⟨t, rfl⟩ := r; rfl
  | flt _ => obtain ⟨t, rfl⟩ := r; rfl
  | ref _ => cases r; rfl
  | ty _ => cases r; rfl
theorem pc_isN {j pos'} (ha : PE X a ta) : PC X .Is a (.Constant .none j pos') (tIsN ta) := by
  intro pins s σ H Q I h
  refine thn (ha pins s σ H _ I h) fun v s1 ⟨x, H1, I1, r1, q1⟩ => ?_
  exact Constant_none (is_none_gen ⟨.bl _, H1, I1, by rw [r1.none_iff]; rfl, q1⟩)
theorem pc_notN {j pos'} (ha : PE X a ta) : PC X .IsNot a (.Constant .none j pos') (tNotN ta) := by
  intro pins s σ H Q I h
  refine thn (ha pins s σ H _ I h) fun v s1 ⟨x, H1, I1, r1, q1⟩ => ?_
  exact Constant_none (isnot_none_gen ⟨.bl _, H1, I1, by rw [r1.none_iff]; rfl, q1⟩)
/-- a comparison as a value, as a test -/
def tB (t : TE) : TT := fun σ H Q => t σ H fun x H1 => ∃ c, x = .bl c ∧ Q c H1
theorem pe_cmp {op : CmpOp} {t : TE} (h : PC X op a b t) (h1 : behindInMarks op b = false := by first | exact nobehind _ (by decide) (by decide) | rfl) : PE X (.Compare a [op] [b] pos) t := fun pins s σ H Q I hw => wpAny_Compare1 (h pins s σ H Q I hw) h1
theorem pt_cmp {op : CmpOp} {t : TE} (h : PC X op a b t) (h1 : behindInMarks op b = false := by first | exact nobehind _ (by decide) (by decide) | rfl) : PT X (.Compare a [op] [b] pos) (tB t) := by
  intro pins s σ H Q I hw
  refine wpAny_isTrue_Compare1 (thn (h pins s σ H _ I hw) fun v s1 h1 => thn h1 fun u s2 h2 => thn h2 fun c s3 ⟨x, H1, I1, r1, q1⟩ => ?_) h1
  obtain ⟨d, rfl, q⟩ := q1
  cases r1
  exact wpAny_truthy_bool ⟨H1, I1, q⟩
/-- an expression whose value is a bool, as a test -/
theorem pt_val {e : Expr} {t : TE} (h : PE X e t) (he : ∀ whole, isTrue e X.env whole = (do let v ← whole; standAt e.pos; holding [v] (truthy v)) := by intro _; rfl) : PT X e (tB t) := by
  intro pins s σ H Q I hw
  refine isTrue_plain (thn (h pins s σ H _ I hw) fun v s1 ⟨x, H1, I1, r1, q1⟩ => ?_) (he _)
  obtain ⟨d, rfl, q⟩ := q1
  cases r1
  exact wpAny_truthy_bool ⟨H1, I1, q⟩

/-! ### and, or, not -/
variable {tA tB' : TT} {rest : List Expr}
def tAnd (t u : TT) : TT := fun σ H Q => t σ H fun c H1 => if c = true then u σ H1 Q else Q false H1
def tOr (t u : TT) : TT := fun σ H Q => t σ H fun c H1 => if c = true then Q true H1 else u σ H1 Q
def tNot (t : TT) : TT := fun σ H Q => t σ H fun c H1 => Q (!c) H1
theorem pw_and1 (ha : PT X a tA) : PW X (.BoolOp .And [a] pos) tA := by
  intro wh pins s σ H Q I h
  refine isTrue_and (thn (ha pins s σ H Q I h) fun c s1 e => ?_)
  cases c with
  | true => exact isTrue_and_nil e
  | false => exact e
theorem pw_or1 (ha : PT X a tA) : PW X (.BoolOp .Or [a] pos) tA := by
  intro wh pins s σ H Q I h
  refine isTrue_or (thn (ha pins s σ H Q I h) fun c s1 e => ?_)
  cases c with
  | false => exact isTrue_or_nil e
  | true => exact e
theorem pw_and (ha : PT X a tA) (hb : PW X (.BoolOp .And (b :: rest) pos) tB') : PW X (.BoolOp .And (a :: b :: rest) pos) (tAnd tA tB') := by
  intro wh pins s σ H Q I h
  refine isTrue_and (thn (ha pins s σ H _ I h) fun c s1 ⟨H1, I1, q1⟩ => ?_)
  cases c with
  | true => exact hb wh pins s1 σ H1 Q I1 q1
  | false => exact ⟨H1, I1, q1⟩
theorem pw_or (ha : PT X a tA) (hb : PW X (.BoolOp .Or (b :: rest) pos) tB') : PW X (.BoolOp .Or (a :: b :: rest) pos) (tOr tA tB') := by
  intro wh pins s σ H Q I h
  refine isTrue_or (thn (ha pins s σ H _ I h) fun c s1 ⟨H1, I1, q1⟩ => ?_)
  cases c with
  | true => exact ⟨H1, I1, q1⟩
  | false => exact hb wh pins s1 σ H1 Q I1 q1
theorem pt_not (ha : PT X a tA) : PT X (.UnaryOp .Not a pos) (tNot tA) := by
  intro pins s σ H Q I h
  exact isTrue_not (ha pins s σ H (fun c H1 => Q (!c) H1) I h)
/-- .. as values (bools) -/
def tAndV (ta tb : TE) : TE := fun σ H Q => ta σ H fun x H1 => ∃ c, x = .bl c ∧ if c = true then tb σ H1 Q else Q (.bl false) H1
def tOrV (ta tb : TE) : TE := fun σ H Q => ta σ H fun x H1 => ∃ c, x = .bl c ∧ if c = true then Q (.bl true) H1 else tb σ H1 Q
def tNotV (ta : TE) : TE := fun σ H Q => ta σ H fun x H1 => ∃ c, x = .bl c ∧ Q (.bl (!c)) H1
theorem pe_one {op} {t : TE} (h : PE X a t) : PE X (.BoolOp op [a] pos) t := fun pins s σ H Q I hw => BoolOp_one (h pins s σ H Q I hw)
theorem pe_and (ha : PE X a ta) (hb : PE X (.BoolOp .And (b :: rest) pos) tb) : PE X (.BoolOp .And (a :: b :: rest) pos) (tAndV ta tb) := by
  intro pins s σ H Q I h
  refine BoolOp_and (thn (ha pins s σ H _ I h) fun v s1 ⟨x, H1, I1, r1, q1⟩ => ?_)
  obtain ⟨c, rfl, q1⟩ := q1
  cases r1
  refine wpAny_truthy_bool ?_
  cases c with
  | true => exact hb pins s1 σ H1 Q I1 q1
  | false => exact ⟨.bl false, H1, I1, rfl, q1⟩
theorem pe_or (ha : PE X a ta) (hb : PE X (.BoolOp .Or (b :: rest) pos) tb) : PE X (.BoolOp .Or (a :: b :: rest) pos) (tOrV ta tb) := by
  intro pins s σ H Q I h
  refine BoolOp_or (thn (ha pins s σ H _ I h) fun v s1 ⟨x, H1, I1, r1, q1⟩ => ?_)
  obtain ⟨c, rfl, q1⟩ := q1
  cases r1
  refine wpAny_truthy_bool ?_
  cases c with
  | false => exact hb pins s1 σ H1 Q I1 q1
  | true => exact ⟨.bl true, H1, I1, rfl, q1⟩
theorem pe_not (ha : PE X a ta) : PE X (.UnaryOp .Not a pos) (tNotV ta) := by
  intro pins s σ H Q I h
  refine UnaryOp_ (thn (ha pins s σ H _ I h) fun v s1 ⟨x, H1, I1, r1, q1⟩ => ?_)
  obtain ⟨c, rfl, q1⟩ := q1
  cases r1
  exact not_of (wpAny_truthy_bool ⟨.bl (!c), H1, I1, rfl, q1⟩)
/-- a if t else b -/
def tIf (t : TT) (ta tb : TE) : TE := fun σ H Q => t σ H fun c H1 => if c = true then ta σ H1 Q else tb σ H1 Q
theorem pe_ifExp {c : Expr} (hc : PT X c tA) (ha : PE X a ta) (hb : PE X b tb) : PE X (.IfExp c a b pos) (tIf tA ta tb) := by
  intro pins s σ H Q I h
  refine wpAny_IfExp (thn (hc pins s σ H _ I h) fun d s1 ⟨H1, I1, q1⟩ => ?_)
  cases d with
  | true => exact ha pins s1 σ H1 Q I1 q1
  | false => exact hb pins s1 σ H1 Q I1 q1
end
end L2

namespace L2
open PySem PySem.Spec PyProof.Rows

/-! ### a list, a tuple that is read: tracked, frozen, or an object of the module -/
def SqL (K : PySem.W.Frag) (H : Hp) (a : Addr) (xs : List V) : Prop :=
  Rd H a (.lst xs) ∨
    ∃ (o : Obj) (its : Array Value) (n : Nat), K.lookup a = some o ∧ o.cls = .type "list" ∧ o.dict = none ∧ o.data = .seq its n ∧ its.size ≤ sizeLine ∧ Vals xs its.toList
def SqT (K : PySem.W.Frag) (H : Hp) (a : Addr) (xs : List V) : Prop :=
  Rd H a (.tup xs) ∨
    ∃ (o : Obj) (its : Array Value) (n : Nat), K.lookup a = some o ∧ o.cls = .type "tuple" ∧ o.data = .seq its n ∧ its.size ≤ sizeLine ∧ Vals xs its.toList
def absV : Value → Option V
  | .none => some .non
  | .bool b => some (.bl b)
  | .int i _ => some (.int i)
  | .str x _ => some (.str x)
  | .bytes b _ => some (.byt b)
  | .float b _ => some (.flt b)
  | .ref a => some (.ref a)
  | .type n => some (.ty n)
  | _ => none
theorem RelV.abs {x : V} {u : Value} (r : RelV x u) : absV u = some x := by
  cases x with
  | non => cases r; rfl
  | bl _ => cases r; rfl
  | int _ => obtain ⟨t, rfl⟩ := r; rfl
  | str _ => obtain ⟨t, rfl⟩ := r; rfl
  | byt _ => obtain ⟨t, rfl⟩ := r; rfl
  | flt _ => obtain ⟨t, rfl⟩ := r; rfl
  | ref _ => cases r; rfl
  | ty _ => cases r; rfl
theorem RelV.inj {x y : V} {u : Value} (r : RelV x u) (q : RelV y u) : x = y := Option.some.inj (r.abs.symm.trans q.abs)
theorem Vals.inj : ∀ {xs ys : List V} {us : List Value}, Vals xs us → Vals ys us → xs = ys
  | _, _, _, .nil, .nil => rfl
  | _, _, _, .cons r t, .cons r' t' => by rw [r.inj r', Vals.inj t t']
section
variable {X : Cx} {pins : List (Addr × Obj)} {σ : St} {H : Hp} {s : Shared} {a : Addr} {xs ys : List V}
theorem SqL.of {K : PySem.W.Frag} (h : H a = some (.lst xs)) : SqL K H a xs := .inl (.inl h)
theorem SqT.of {K : PySem.W.Frag} (h : H a = some (.tup xs)) : SqT K H a xs := .inl (.inl h)
theorem Inv.list (I : Inv X pins σ H s) (h : SqL X.K H a xs) : ∃ its : List Value, Vals xs its ∧ PlainL s.heap a its.toArray ∧ xs.length ≤ sizeLine := by
  rcases h with h | ⟨o, its, n, hk, hc, hd, hs, hz, r⟩
  · obtain ⟨z, its, n, r, e⟩ := h.ok I.hok
    exact ⟨its, r, ⟨_, n, e, rfl, rfl, rfl⟩, z⟩
  · refine ⟨its.toList, r, ⟨o, n, I.kIn a o hk, hc, hd, by simpa using hs⟩, ?_⟩
    have e := r.length
    simp only [Array.length_toList] at e
    omega
theorem Inv.tuple (I : Inv X pins σ H s) (h : SqT X.K H a xs) : ∃ its : List Value, Vals xs its ∧ IsTup s.heap a its.toArray ∧ xs.length ≤ sizeLine := by
  rcases h with h | ⟨o, its, n, hk, hc, hs, hz, r⟩
  · obtain ⟨z, its, r, p⟩ := h.ok I.hok
    exact ⟨its, r, p, z⟩
  · refine ⟨its.toList, r, ⟨o, I.kIn a o hk, hc, n, by simpa using hs⟩, ?_⟩
    have e := r.length
    simp only [Array.length_toList] at e
    omega
theorem Inv.list_inj (I : Inv X pins σ H s) (h : SqL X.K H a xs) (h' : SqL X.K H a ys) : xs = ys := by
  obtain ⟨its, r, ⟨o, n, e, _, _, d⟩, _⟩ := I.list h
  obtain ⟨its', r', ⟨o', n', e', _, _, d'⟩, _⟩ := I.list h'
  rw [e] at e'; cases e'
  rw [d] at d'
  injection d' with d1 _
  have : its = its' := by simpa using congrArg Array.toList d1
  subst this
  exact r.inj r'
theorem Inv.tuple_inj (I : Inv X pins σ H s) (h : SqT X.K H a xs) (h' : SqT X.K H a ys) : xs = ys := by
  obtain ⟨its, r, ⟨o, e, _, n, d⟩, _⟩ := I.tuple h
  obtain ⟨its', r', ⟨o', e', _, n', d'⟩, _⟩ := I.tuple h'
  rw [e] at e'; cases e'
  rw [d] at d'
  injection d' with d1 _
  have : its = its' := by simpa using congrArg Array.toList d1
  subst this
  exact r.inj r'
end

/-! ### another wish about exceptions -/
abbrev Cx.wish (X : Cx) (E : Value → Shared → Prop) : Cx := { X with xe := E }
/-- no exception leaves -/
abbrev Cx.nox (X : Cx) : Cx := X.wish fun _ _ => False
theorem Cx.Ok.wish {X : Cx} (ok : X.Ok) (E : Value → Shared → Prop) : (X.wish E).Ok :=
  ⟨ok.mod, ok.kind, ok.glob, ok.blt, ok.above, ok.inj, ok.has, ok.cab, ok.hd, ok.frames, ok.stk, ok.exf, ok.bs, ok.bsz, ok.noex, ok.exfs, ok.funs, ok.frf⟩
theorem Cx.Ok.unwish {X : Cx} {E : Value → Shared → Prop} (ok : (X.wish E).Ok) : X.Ok :=
  ⟨ok.mod, ok.kind, ok.glob, ok.blt, ok.above, ok.inj, ok.has, ok.cab, ok.hd, ok.frames, ok.stk, ok.exf, ok.bs, ok.bsz, ok.noex, ok.exfs, ok.funs, ok.frf⟩
section
variable {X : Cx} {pins : List (Addr × Obj)} {σ : St} {H : Hp} {s : Shared} {E : Value → Shared → Prop}
theorem Inv.wish (I : Inv X pins σ H s) (E : Value → Shared → Prop) : Inv (X.wish E) pins σ H s := ⟨I.ok.wish E, I.os, I.bare, I.base, I.loc, I.cell, I.free, I.freeC, I.pin, I.hok, I.len⟩
theorem Inv.unwish (I : Inv (X.wish E) pins σ H s) : Inv X pins σ H s := ⟨I.ok.unwish, I.os, I.bare, I.base, I.loc, I.cell, I.free, I.freeC, I.pin, I.hok, I.len⟩
theorem SP.unwish {D : Ends} {f : Flow} {s' : Shared} (h : SP (X.wish E) pins D f s') : SP X pins D f s' := by
  cases f with
  | next => obtain ⟨σ', H', I, q⟩ := h; exact ⟨σ', H', I.unwish, q⟩
  | brk => obtain ⟨σ', H', I, q⟩ := h; exact ⟨σ', H', I.unwish, q⟩
  | cont => obtain ⟨σ', H', I, q⟩ := h; exact ⟨σ', H', I.unwish, q⟩
  | ret u => obtain ⟨v, σ', H', I, r, q⟩ := h; exact ⟨v, σ', H', I.unwish, r, q⟩
theorem PE.nox {e : Expr} {t : TE} (h : PE X.nox e t) : PE X e t := fun pins s σ H Q I hw =>
  wpAny_mono (h pins s σ H Q (I.wish _) hw) (fun _ _ ⟨v, H', I', r, q⟩ => ⟨v, H', I'.unwish, r, q⟩) fun _ _ z => False.elim z
theorem PT.nox {e : Expr} {t : TT} (h : PT X.nox e t) : PT X e t := fun pins s σ H Q I hw =>
  wpAny_mono (h pins s σ H Q (I.wish _) hw) (fun _ _ ⟨H', I', q⟩ => ⟨H', I'.unwish, q⟩) fun _ _ z => False.elim z
theorem PSs.nox {st : List Stmt} {t : TS} (h : PSs X.nox st t) : PSs X st t := fun pins s σ H D I hw =>
  wpAny_mono (h pins s σ H D (I.wish _) hw) (fun _ _ q => q.unwish) fun _ _ z => False.elim z
end

/-! ### blocks and small statements -/
section
variable {X : Cx} {st : Stmt} {rest : List Stmt} {t u : TS} {e : Expr} {te : TE} {pos : Pos}
def tNext : TS := fun D σ H => D.nx σ H
def tSeq (t u : TS) : TS := fun D σ H => t { D with nx := u D } σ H
theorem pss_nil : PSs X [] tNext := fun _ _ σ H _ I h => wpAny_execs_nil ⟨σ, H, I, h⟩
theorem pss_cons (h1 : PS X st t) (h2 : PSs X rest u) : PSs X (st :: rest) (tSeq t u) := by
  intro pins s σ H D I h
  refine wpAny_execs_cons (thn (h1 pins s σ H { D with nx := u D } I h) fun f s1 q => ?_)
  cases f with
  | next =>
    obtain ⟨σ', H', I', q⟩ := q
    exact h2 pins s1 σ' H' D I' q
  | ret v => exact q
  | brk => exact q
  | cont => exact q
theorem pss_one (h1 : PS X st t) : PSs X [st] t := by
  intro pins s σ H D I h
  refine wpAny_execs_cons (thn (h1 pins s σ H D I h) fun f s1 q => ?_)
  cases f with
  | next => exact wpAny_execs_nil q
  | ret v => exact q
  | brk => exact q
  | cont => exact q
def tBreak : TS := fun D σ H => D.bk σ H
def tCont : TS := fun D σ H => D.ct σ H
theorem ps_pass : PS X (.Pass pos) tNext := fun _ _ σ H _ I h => wpAny_Pass ⟨σ, H, I, h⟩
theorem ps_break : PS X (.Break pos) tBreak := fun _ _ σ H _ I h => wpAny_Break ⟨σ, H, I, h⟩
theorem ps_continue : PS X (.Continue pos) tCont := fun _ _ σ H _ I h => wpAny_Continue ⟨σ, H, I, h⟩
/-- in a def's body nothing is shown -/
theorem Inv.quiet {pins : List (Addr × Obj)} {σ : St} {H : Hp} {s : Shared} (I : Inv X pins σ H s) : interactive X.env = false := by simp [interactive, I.ok.kind]
/-- a docstring -/
theorem ps_doc {x j pos pos'} : PS X (.Expr (.Constant (.str x) j pos) pos') tNext := fun _ s σ H _ I h => wpAny_Expr (Calls.Constant_str (show SP X _ _ .next { s with toks := s.toks + 1 } from ⟨σ, H, I.tok _, h⟩)) I.quiet
/-- an expression whose value is dropped -/
def tDrop (te : TE) : TS := fun D σ H => te σ H fun _ H1 => D.nx σ H1
theorem ps_expr (he : PE X e te) (hs : swapsWith e none pos.line X.env = pure false := by rfl) : PS X (.Expr e pos) (tDrop te) := by
  intro pins s σ H D I h
  exact wpAny_Expr_any (thn (he pins s σ H _ I h) fun v s1 ⟨x, H1, I1, r1, q1⟩ => ⟨σ, H1, I1, q1⟩) I.quiet hs
def tRet (te : TE) : TS := fun D σ H => te σ H D.rt
theorem ps_ret (he : PE X e te) : PS X (.Return (some e) pos) (tRet te) := by
  intro pins s σ H D I h
  exact wpAny_Return_some (thn (he pins s σ H _ I h) fun v s1 ⟨x, H1, I1, r1, q1⟩ => ⟨x, σ, H1, I1, r1, q1⟩)
def tRetN : TS := fun D _ H => D.rt .non H
theorem ps_retN : PS X (.Return none pos) tRetN := fun _ _ σ H _ I h => wpAny_Return_none ⟨.non, σ, H, I, rfl, h⟩
def tIfS (c : TT) (t u : TS) : TS := fun D σ H => c σ H fun b H1 => if b = true then t D σ H1 else u D σ H1
theorem ps_if {c : Expr} {a b : List Stmt} {tc : TT} (hc : PT X c tc) (ha : PSs X a t) (hb : PSs X b u) : PS X (.If c a b pos) (tIfS tc t u) := by
  intro pins s σ H D I h
  refine wpAny_If (thn (hc pins s σ H _ I h) fun d s1 ⟨H1, I1, q1⟩ => ?_)
  cases d with
  | true => exact ha pins s1 σ H1 D I1 q1
  | false => exact hb pins s1 σ H1 D I1 q1
/-- code that the proof never comes to -/
def tNever : TS := fun _ _ _ => False
theorem ps_never : PS X st tNever := fun _ _ _ _ _ _ h => h.elim
theorem pss_never {sts : List Stmt} : PSs X sts tNever := fun _ _ _ _ _ _ h => h.elim
end

/-! ### targets -/
abbrev TG := V → St → Hp → (St → Hp → Prop) → Prop
abbrev TGs := List V → St → Hp → (St → Hp → Prop) → Prop
def PG (X : Cx) (target : Expr) (t : TG) : Prop :=
  ∀ (pins : List (Addr × Obj)) (s : Shared) (σ : St) (H : Hp) (v : V) (u : Value) (Q : St → Hp → Prop), Inv X pins σ H s → RelV v u → t v σ H Q →
    wpAny (model X.prog X.w) X.A (assign target X.env u) (fun _ s' => ∃ σ' H', Inv X pins σ' H' s' ∧ Q σ' H') X.xe s
/-- several targets, one after another -/
def PGs (X : Cx) (ts : List Expr) (t : TGs) : Prop :=
  ∀ (pins : List (Addr × Obj)) (s : Shared) (σ : St) (H : Hp) (vs : List V) (us : List Value) (Q : St → Hp → Prop), Inv X pins σ H s → Vals vs us → t vs σ H Q →
    wpAny (model X.prog X.w) X.A (assignInOrder ((assignEach ts X.env).map (·.2)) us) (fun _ s' => ∃ σ' H', Inv X pins σ' H' s' ∧ Q σ' H') X.xe s
/-- o[i] = v, by values -/
abbrev TSet := V → V → V → Hp → (Hp → Prop) → Prop
def PSet (X : Cx) (t : TSet) : Prop :=
  ∀ (pins : List (Addr × Obj)) (s : Shared) (σ : St) (H : Hp) (o i v : V) (ov iv u : Value) (Q : Hp → Prop), Inv X pins σ H s → RelV o ov → RelV i iv → RelV v u → t o i v H Q →
    wpAny (model X.prog X.w) X.A (setItem ov iv u) (fun _ s' => ∃ H', Inv X pins σ H' s' ∧ Q H') X.xe s
/-- a op= b, by values -/
abbrev TIp := V → V → Hp → VK → Prop
def PIp (X : Cx) (op : Operator) (t : TIp) : Prop :=
  ∀ (pins : List (Addr × Obj)) (s : Shared) (σ : St) (H : Hp) (x y : V) (v u : Value) (Q : VK), Inv X pins σ H s → RelV x v → RelV y u → t x y H Q →
    wpAny (model X.prog X.w) X.A (inplaceOp op v u) (EP X pins σ Q) X.xe s
section
variable {X : Cx} {pos : Pos}
def gName (i : Nat) : TG := fun v σ H Q => Q (σ.set i (some v)) H
theorem pg_name {i : Nat} {x : Str} (hN : X.N.Nodup) (hi : X.N[i]? = some x) (hx : Loc X.env.scope x) (hf : X.fn x = true ∨ X.env.scope.names.lookup x = some .local := by first | exact .inl rfl | exact .inr rfl | assumption) : PG X (.Name x pos) (gName i) := by
  intro pins s σ H v u Q I r h
  exact wpAny_assign_Name (store_ok I hN hi hx r (fun s' I' => ⟨_, H, I', h⟩) hf)
def gNil : TGs := fun vs σ H Q => vs = [] ∧ Q σ H
def gCons (t : TG) (u : TGs) : TGs := fun vs σ H Q => ∃ v r, vs = v :: r ∧ t v σ H fun σ' H' => u r σ' H' Q
theorem pgs_nil : PGs X [] gNil := by
  intro pins s σ H vs us Q I r h
  obtain ⟨e, h⟩ := h
  subst e
  cases r
  exact assignInOrder_nil ⟨σ, H, I, h⟩
theorem pgs_cons {e : Expr} {es : List Expr} {t : TG} {u : TGs} (h1 : PG X e t) (h2 : PGs X es u)
    (hs : (assignEach (e :: es) X.env).map (·.2) = assign e X.env :: (assignEach es X.env).map (·.2) := by rfl) : PGs X (e :: es) (gCons t u) := by
  intro pins s σ H vs us Q I r h
  obtain ⟨v, vr, e1, h⟩ := h
  subst e1
  cases r with
  | cons r rr =>
    rw [hs]
    refine assignInOrder_cons (thn (h1 pins s σ H _ _ _ I r h) fun _ s1 ⟨σ1, H1, I1, q1⟩ => ?_)
    exact h2 pins s1 σ1 H1 _ _ Q I1 rr q1
/-- (a, b, ..) = a tuple of that length -/
def gTup (K : PySem.W.Frag) (n : Nat) (t : TGs) : TG := fun v σ H Q => ∃ a xs, v = .ref a ∧ SqT K H a xs ∧ xs.length = n ∧ t xs σ H Q
theorem pg_tup {es : List Expr} {k : Nat} {t : TGs} {n : Nat} (hc : X.calm = true) (h : PGs X es t)
    (hn : (assignEach es X.env).length = n := by rfl) (hst : (assignEach es X.env).findIdx? (·.1) = none := by rfl) : PG X (.Tuple es k pos) (gTup X.K n t) := by
  intro pins s σ H v u Q I r hw
  obtain ⟨a, xs, e1, hq, hl, hw⟩ := hw
  subst e1
  cases r
  obtain ⟨its, rv, ht, hz⟩ := I.tuple hq
  refine assign_Tuple_tuple (I.ok.hd hc) ht (by simp [hn, ← hl, rv.length]) hst fun h' hx => ?_
  have I1 : Inv X pins σ H { s with heap := h' } := I.kept (t' := s.toks) fun b o e => hx b o (Nat.ne_of_lt (Heap.lt_size e)) e
  exact h pins _ σ H xs _ Q I1 (by simpa using rv) hw
/-- o[i] = .. -/
def gSub (to ti : TE) (t : TSet) : TG := fun v σ H Q => to σ H fun o H1 => ti σ H1 fun i H2 => t o i v H2 fun H3 => Q σ H3
theorem pg_sub {o i : Expr} {to ti : TE} {t : TSet} (ho : PE X o to) (hi : PE X i ti) (hs : PSet X t)
    (ha : ∀ v, assign (.Subscript o i pos) X.env v = (do
      let ov ← holding [v] (eval o X.env)
      let iv ← holding [v, ov] (eval i X.env)
      standAt pos
      holding [v, ov, iv] (setItem ov iv v)
      release [v, ov, iv] []) := by intro _; rfl) : PG X (.Subscript o i pos) (gSub to ti t) := by
  intro pins s σ H v u Q I r h
  rw [ha]
  refine wpAny_bind (wpAny_holding (thn (ho pins s σ H _ I h) fun ov s1 ⟨x, H1, I1, r1, q1⟩ => ?_))
  refine wpAny_bind (wpAny_holding (thn (hi pins s1 σ H1 _ I1 q1) fun iv s2 ⟨y, H2, I2, r2, q2⟩ => ?_))
  refine wpAny_bind (wpAny_standAt (wpAny_bind (wpAny_holding (thn (hs pins s2 σ H2 x y v ov iv u _ I2 r1 r2 r q2) fun _ s3 ⟨H3, I3, q3⟩ => ?_))))
  exact wpAny_release ⟨σ, H3, I3, q3⟩
/-- target = value -/
def tAsg (te : TE) (g : TG) : TS := fun D σ H => te σ H fun x H1 => g x σ H1 D.nx
theorem ps_asg {tg e : Expr} {te : TE} {g : TG} (he : PE X e te) (hg : PG X tg g) (hs : swapsWithSole [tg] e pos.line X.env = pure false := by rfl) (hw : swappedStores [tg] e X.env = pure none := by rfl)
    (h1 : (assignEach [tg] X.env).map (·.2) = [assign tg X.env] := by rfl) : PS X (.Assign [tg] e pos) (tAsg te g) := by
  intro pins s σ H D I h
  refine wpAny_Assign_stores (thn (he pins s σ H _ I h) fun v s1 ⟨x, H1, I1, r1, q1⟩ => ?_) hs hw
  rw [h1]
  exact thn (hg pins s1 σ H1 x v _ I1 r1 q1) fun _ s2 q => q
/-- name = value -/
theorem ps_set {i : Nat} {x : Str} {e : Expr} {te : TE} {pos' : Pos} (hN : X.N.Nodup) (hi : X.N[i]? = some x) (hx : Loc X.env.scope x) (he : PE X e te) (hs : swapsWith e (some (.Name x pos')) pos.line X.env = pure false := by rfl) (hf : X.fn x = true ∨ X.env.scope.names.lookup x = some .local := by first | exact .inl rfl | exact .inr rfl | assumption) :
    PS X (.Assign [.Name x pos'] e pos) (tAsg te (gName i)) := by
  intro pins s σ H D I h
  refine wpAny_Assign_Name (thn (he pins s σ H _ I h) fun v s1 ⟨y, H1, I1, r1, q1⟩ => ?_) hs
  exact store_ok I1 hN hi hx r1 (fun s2 I2 => ⟨_, H1, I2, q1⟩) hf
/-- a, b = x, y with plain local names: stored from the right; the pair itself is not tracked (the opening rows as in PyProof/Rows/TupAssign.lean:23) -/
def tPar (i j : Nat) (ta : TA) : TS := fun D σ H => ta σ H fun vs H1 => ∃ v w, vs = [v, w] ∧ D.nx ((σ.set i (some v)).set j (some w)) H1
theorem ps_par {i j : Nat} {x y : Str} {a b : Expr} {ta : TA} {px py pt : Pos} {kt k2 pt2} (hc : X.calm = true) (hN : X.N.Nodup) (hi : X.N[i]? = some x) (hj : X.N[j]? = some y) (hij : i ≠ j)
    (hx : X.env.scope.names.lookup x = some .local) (hy : X.env.scope.names.lookup y = some .local) (ha : PA X [a, b] ta)
    (hw : swappedStores [.Tuple [.Name x px, .Name y py] kt pt] (.Tuple [a, b] k2 pt2) X.env = pure (some [x, y]))
    (hs : swapsWithSole [.Tuple [.Name x px, .Name y py] kt pt] (.Tuple [a, b] k2 pt2) pos.line X.env = pure false := by rfl) :
    PS X (.Assign [.Tuple [.Name x px, .Name y py] kt pt] (.Tuple [a, b] k2 pt2) pos) (tPar i j ta) := by
  intro pins s σ H D I h
  rw [exec_Assign_arm]
  refine wpAny_bind (wpAny_standAt ?_)
  rw [hs]
  refine wpAny_bind (wpAny_pure ?_)
  rw [if_neg (by decide)]
  refine wpAny_bind (Tuple_ (thn (ha _ pins s σ H _ I h) fun us s1 ⟨vs, H1, I1, r1, q1⟩ => ?_))
  obtain ⟨v, w, e1, q1⟩ := q1
  subst e1
  obtain ⟨u1, u2, rfl, rv, rw'⟩ : ∃ u1 u2, us = [u1, u2] ∧ RelV v u1 ∧ RelV w u2 := by
    cases r1 with
    | cons p q =>
      cases q with
      | cons p' q' =>
        cases q'
        exact ⟨_, _, rfl, p, p'⟩
  refine wpAny_newObj_type ?_ (by show 2 ≤ sizeLine; decide)
  have I2 : Inv X pins σ H1 { s1 with heap := s1.heap.push { cls := .type "tuple", data := .seq [u1, u2].toArray } } := I1.kept (t' := s1.toks) fun b o e => Heap.get?_push_of_some _ e
  rw [hw]
  refine wpAny_bind (wpAny_pure ?_)
  show wpAny (model X.prog X.w) X.A (do rule "assign.swapped-stores"; let items ← unpackItems (.ref s1.heap.objs.size) 2 none; assignInOrder [fun v => bindName X.env y v, fun v => bindName X.env x v] items.reverse; pure Flow.next) _ _ _
  refine wpAny_bind (wpAny_rule (wpAny_bind (unpackItems_tuple (items := #[u1, u2]) (I.ok.hd hc) (IsTup.new s1.heap _) fun h' hx' => ?_)))
  have I3 := I2.kept (h' := h') (t' := s1.toks) fun b o e => hx' b o (Nat.ne_of_lt (Heap.lt_size e)) e
  show wpAny _ _ (assignInOrder [fun v => bindName X.env y v, fun v => bindName X.env x v] [u2, u1] >>= fun _ => pure Flow.next) _ _ _
  refine wpAny_bind (assignInOrder_cons (wpAny_bindName (store_ok I3 hN hj (.inl hy) rw' (fun s2 I4 => ?_) (.inr hy))))
  refine assignInOrder_cons (wpAny_bindName (store_ok I4 hN hi (.inl hx) rv (fun s3 I5 => assignInOrder_nil (wpAny_pure ?_)) (.inr hx)))
  rw [List.set_comm _ _ (Ne.symm hij)] at I5
  exact ⟨_, H1, I5, q1⟩
/-- name op= e -/
def tAug (i : Nat) (te : TE) (ti : TIp) : TS := fun D σ H => ∃ x, σ[i]? = some (some x) ∧ te σ H fun y H1 => ti x y H1 fun z H2 => D.nx (σ.set i (some z)) H2
theorem ps_aug {i : Nat} {x : Str} {e : Expr} {te : TE} {op : Operator} {ti : TIp} {pos' : Pos} (hN : X.N.Nodup) (hi : X.N[i]? = some x) (hx : Loc X.env.scope x) (he : PE X e te) (ho : PIp X op ti) (hf : X.fn x = true ∨ X.env.scope.names.lookup x = some .local := by first | exact .inl rfl | exact .inr rfl | assumption) :
    PS X (.AugAssign (.Name x pos') op e pos) (tAug i te ti) := by
  intro pins s σ H D I h
  obtain ⟨v, e1, h⟩ := h
  obtain ⟨m, hn, hl⟩ := I.loc
  have vis : Vis X.env.scope x := by rcases hx with k | k; exact .inl k; exact .inr (.inl k)
  obtain ⟨u, r, l⟩ := hl i x v hi e1 vis
  refine wpAny_AugAssign_Name ?_
  have go : wpAny (model X.prog X.w) X.A (eval e X.env) (fun w s₂ => wpAny (model X.prog X.w) X.A (inplaceOp op u w) (fun r s₃ => wpAny (model X.prog X.w) X.A (storeName X.env x r) (fun _ => SP X pins D .next) X.xe s₃) X.xe s₂) X.xe s := by
    refine thn (he pins s σ H _ I h) fun w s1 ⟨y, H1, I1, r1, q1⟩ => ?_
    refine thn (ho pins s1 σ H1 v y u w _ I1 r r1 q1) fun z s2 ⟨zv, H2, I2, r2, q2⟩ => ?_
    exact store_ok I2 hN hi hx r2 (fun s3 I3 => ⟨_, H2, I3, q2⟩) hf
  rcases l with ⟨hk, hm⟩ | ⟨hk, c, hc, hcell⟩
  · exact wpAny_loadName_local I.ok.kind hk hn hm go
  · rcases hk with hk | hk
    · exact wpAny_loadName_cell I.ok.kind hk hc hcell go
    · rcases hx with k | k
      · have : X.env.scope.names.lookup x = some .free := hk
        rw [k] at this; cases this
      · have : X.env.scope.names.lookup x = some .free := hk
        rw [k] at this; cases this
/-- o[i] op= e -/
def tAugS (to ti te : TE) (tget : V → V → Hp → VK → Prop) (tip : TIp) (tset : TSet) : TS := fun D σ H => to σ H fun o H1 => ti σ H1 fun i H2 => tget o i H2 fun x H3 => te σ H3 fun y H4 => tip x y H4 fun z H5 => tset o i z H5 fun H6 => D.nx σ H6
/-- o[i], by values -/
def PGet (X : Cx) (t : V → V → Hp → VK → Prop) : Prop :=
  ∀ (pins : List (Addr × Obj)) (s : Shared) (σ : St) (H : Hp) (o i : V) (ov iv : Value) (Q : VK), Inv X pins σ H s → RelV o ov → RelV i iv → t o i H Q →
    wpAny (model X.prog X.w) X.A (getItem ov iv) (EP X pins σ Q) X.xe s
theorem ps_augS {o i e : Expr} {to ti te : TE} {tget : V → V → Hp → VK → Prop} {tip : TIp} {tset : TSet} {op : Operator} {tpos : Pos} (ho : PE X o to) (hi : PE X i ti) (hg : PGet X tget) (he : PE X e te) (hp : PIp X op tip) (hs : PSet X tset)
    (ha : ∀ ov iv new, augStore i ov iv new = (do holding [new, ov, iv] (setItem ov iv new); release [new, ov, iv] []; pure .next) := by intros; rfl) : PS X (.AugAssign (.Subscript o i tpos) op e pos) (tAugS to ti te tget tip tset) := by
  intro pins s σ H D I h
  refine wpAny_AugAssign_SubscriptAny (thn (ho pins s σ H _ I h) fun ov s1 ⟨x1, H1, I1, r1, q1⟩ => ?_) ha
  refine thn (hi pins s1 σ H1 _ I1 q1) fun iv s2 ⟨x2, H2, I2, r2, q2⟩ => ?_
  refine thn (hg pins s2 σ H2 x1 x2 ov iv _ I2 r1 r2 q2) fun old s3 ⟨x3, H3, I3, r3, q3⟩ => ?_
  refine thn (he pins s3 σ H3 _ I3 q3) fun v s4 ⟨x4, H4, I4, r4, q4⟩ => ?_
  refine thn (hp pins s4 σ H4 x3 x4 old v _ I4 r3 r4 q4) fun new s5 ⟨x5, H5, I5, r5, q5⟩ => ?_
  exact thn (hs pins s5 σ H5 x1 x2 x5 ov iv new _ I5 r1 r2 r5 q5) fun _ s6 ⟨H6, I6, q6⟩ => ⟨σ, H6, I6, q6⟩
/-- ints -/
def ipI (f : Int → Int → Int) : TIp := fun x y H Q => ∃ i j, x = .int i ∧ y = .int j ∧ Q (.int (f i j)) H
theorem ip_add : PIp X .Add (ipI fun i j => i + j) := by
  intro pins s σ H x y v u Q I r1 r2 h
  obtain ⟨i, j, e1, e2, q⟩ := h
  subst e1; subst e2
  obtain ⟨t, rfl⟩ := r1
  obtain ⟨t', rfl⟩ := r2
  exact iadd_int ⟨.int _, H, I.tok _, ⟨_, rfl⟩, q⟩
theorem ip_sub : PIp X .Sub (ipI fun i j => i - j) := by
  intro pins s σ H x y v u Q I r1 r2 h
  obtain ⟨i, j, e1, e2, q⟩ := h
  subst e1; subst e2
  obtain ⟨t, rfl⟩ := r1
  obtain ⟨t', rfl⟩ := r2
  exact isub_int ⟨.int _, H, I.tok _, ⟨_, rfl⟩, q⟩
end

/-! ### while -/
section
variable {X : Cx} {pos : Pos}
/-- the invariant W with its measure -/
def tWhile (c : TT) (tb : TS) : TS := fun D σ H => ∃ W : Nat → St → Hp → Prop, (∃ m, W m σ H) ∧ ∀ m σ H, W m σ H →
  c σ H fun b H1 => if b = true then ∃ N : St → Hp → Prop, (∀ σ' H', N σ' H' → ∃ m', m' < m ∧ W m' σ' H') ∧ tb { D with nx := N, ct := N, bk := D.nx } σ H1 else D.nx σ H1
theorem ps_while {c : Expr} {body : List Stmt} {tc : TT} {tb : TS} (hp : PassesOwn (model X.prog X.w) X.A X.env X.xe) (hc : PT X c tc) (hb : PSs X body tb) : PS X (.While c body [] pos) (tWhile tc tb) := by
  intro pins s σ H D I h
  obtain ⟨W, ⟨m0, w0⟩, turn⟩ := h
  refine wpAny_While (codeAny_whileLoop (fun n s' => ∃ σ' H', Inv X pins σ' H' s' ∧ W n σ' H') ?_ m0 ⟨σ, H, I, w0⟩)
  rintro n s1 ⟨σ1, H1, I1, w1⟩
  refine wpAny_passesOwn hp (thn (hc pins s1 σ1 H1 _ I1 (turn n σ1 H1 w1)) fun b s2 ⟨H2, I2, q2⟩ => ?_)
  cases b with
  | true =>
    obtain ⟨N, hN, q2⟩ := q2
    rw [if_pos rfl]
    refine wpAny_passesOwn hp (thn (hb pins s2 σ1 H2 _ I2 q2) fun f s3 q3 => ?_)
    cases f with
    | next =>
      obtain ⟨σ3, H3, I3, n3⟩ := q3
      obtain ⟨m', hm, w3⟩ := hN σ3 H3 n3
      exact ⟨m', hm, σ3, H3, I3, w3⟩
    | cont =>
      obtain ⟨σ3, H3, I3, n3⟩ := q3
      obtain ⟨m', hm, w3⟩ := hN σ3 H3 n3
      exact ⟨m', hm, σ3, H3, I3, w3⟩
    | brk => exact q3
    | ret v => exact q3
  | false =>
    rw [if_neg Bool.false_ne_true]
    exact wpAny_execs_nil ⟨σ1, H2, I2, q2⟩
end

/-! ### what a loop or a comprehension walks -/
/-- at turn i: it yields x (the heap may grow), or it stops -/
structure It where
  go : Nat → Hp → Prop
  yld : Nat → Hp → V → Hp → Prop
  stop : Nat → Hp → Prop
/-- the iterator's own objects may turn: they are not the frame's, not pinned, younger than the entry (or a comprehension's own) -/
def FpOk (X : Cx) (pins : List (Addr × Obj)) (H : Hp) (b : Addr) : Prop :=
  H b = none ∧ b ≠ X.env.locals ∧ b ∉ X.fs ∧ (b ∈ X.ex ∨ X.s_0.heap.objs.size ≤ b) ∧ (∀ x c, X.env.cells.lookup x = some c → c ≠ b) ∧ ∀ p ∈ X.pn ++ pins, p.1 ≠ b
theorem Inv.fpOk {X : Cx} {pins : List (Addr × Obj)} {σ : St} {H H' : Hp} {s : Shared} {b : Addr} (I : Inv X pins σ H s) (hb : s.heap.objs.size ≤ b) (hn : H' b = none) : FpOk X pins H' b := by
  refine ⟨hn, Nat.ne_of_gt (Nat.lt_of_lt_of_le I.lt hb), I.nofs hb, .inr (Nat.le_trans I.sz hb), fun x c e z => ?_, fun p hp z => ?_⟩
  · obtain ⟨v, q⟩ := I.cell x c e
    exact absurd (Nat.lt_of_lt_of_le q.lt (by rw [z]; exact hb)) (Nat.lt_irrefl _)
  · exact absurd (Nat.lt_of_lt_of_le (Heap.lt_size (I.pin p hp).1) (by rw [z]; exact hb)) (Nat.lt_irrefl _)
structure Turn (P : Program) (w : World) (K : PySem.W.Frag) (tg : Expr) (J : It) (fp : List Addr) (it : Addr) (tn : Nat → Heap → Prop) : Prop where
  mem : it ∈ fp
  obj : ∀ i h, tn i h → ∀ b ∈ fp, ∃ o, h.get? b = some o ∧ ∀ v, o.data ≠ .cell v
  keep : ∀ i h h', tn i h → (∀ b ∈ fp, ∀ o, h.get? b = some o → h'.get? b = some o) → tn i h'
  item : ∀ (X : Cx), X.prog = P → X.w = w → X.K = K → X.calm = true → ∀ (i : Nat) (pins : List (Addr × Obj)) (s : Shared) (σ : St) (H : Hp) (E : Value → Shared → Prop), Inv X pins σ H s → (∀ b ∈ fp, FpOk X pins H b) → tn i s.heap → J.go i H →
    wpAny (model P w) X.A (pyNext (.ref it)) (fun r s1 => ∃ u, r = some u ∧
      wpAny (model P w) X.A (letOwnedTupleGo tg (.ref it) u) (fun _ s2 => ∃ x H', Inv X pins σ H' s2 ∧ RelV x u ∧ J.yld i H x H' ∧ tn (i + 1) s2.heap ∧ ∀ b ∈ fp, H' b = none) E s1) E s
  done : ∀ (X : Cx), X.prog = P → X.w = w → X.K = K → X.calm = true → ∀ (i : Nat) (pins : List (Addr × Obj)) (s : Shared) (σ : St) (H : Hp) (E : Value → Shared → Prop), Inv X pins σ H s → (∀ b ∈ fp, FpOk X pins H b) → tn i s.heap → J.stop i H →
    wpAny (model P w) X.A (pyNext (.ref it)) (fun r s1 => r = none ∧ Inv X pins σ H s1) E s
  self : ∀ (A : Around) (i : Nat) (s : Shared) (Q : Value → Shared → Prop) (E : Value → Shared → Prop), tn i s.heap → Q (.ref it) s → wpAny (model P w) A (pyIter (.ref it)) Q E s
abbrev TI := St → Hp → (It → Hp → Prop) → Prop
/-- an iterator has come -/
def PIE (X : Cx) (pins : List (Addr × Obj)) (σ : St) (tg : Expr) (R : It → Hp → Prop) (itv : Value) (s2 : Shared) : Prop :=
  ∃ (it : Addr) (fp : List Addr) (tn : Nat → Heap → Prop) (J : It) (H' : Hp), itv = .ref it ∧ Inv X pins σ H' s2 ∧ Turn X.prog X.w X.K tg J fp it tn ∧ tn 0 s2.heap ∧ (∀ b ∈ fp, FpOk X pins H' b) ∧ R J H'
def PI (X : Cx) (tg iter : Expr) (wi : TI) : Prop :=
  ∀ (pins : List (Addr × Obj)) (s : Shared) (σ : St) (H : Hp) (R : It → Hp → Prop), Inv X pins σ H s → wi σ H R →
    wpAny (model X.prog X.w) X.A (eval iter X.env) (fun v s1 => wpAny (model X.prog X.w) X.A (pyIter v) (PIE X pins σ tg R) X.xe s1) X.xe s

/-- the step ahead of the store is nothing for an iterator that keeps no tuple -/
theorem go_of {M : Model} {A : Around} {E : Value → Shared → Prop} {s : Shared} {tg : Expr} {it : Addr} {u : Value} {o : Obj} {n : String} {vs : Array Value} {Q : Unit → Shared → Prop} (ho : s.heap.get? it = some o) (hc : o.cls = .type n) (hd : o.data = .fields vs)
    (hn : ["enumerate", "zip", "dict_itemiterator", "dict_reverseitemiterator", "odict_iterator", "itertools.zip_longest", "itertools.pairwise"].contains n = false) (hQ : Q () s) : wpAny M A (letOwnedTupleGo tg (.ref it) u) Q E s := by
  unfold letOwnedTupleGo
  cases tg <;> first
    | exact wpAny_pure hQ
    | (cases u <;> first
        | exact wpAny_pure hQ
        | (refine wpAny_bind (wpAny_load ho ?_)
           rw [hc, hd]
           show wpAny M A (if (["enumerate", "zip", "dict_itemiterator", "dict_reverseitemiterator", "odict_iterator", "itertools.zip_longest", "itertools.pairwise"].contains n && vs[0]? == some (rawInt _)) = true then _ else _) Q E s
           rw [if_neg (by intro h; rw [hn, Bool.false_and] at h; cases h)]
           exact wpAny_pure hQ))

/-- the list at a, as it stands at each turn (a loop may append to it) -/
def Itl (K : PySem.W.Frag) (a : Addr) : It :=
  ⟨fun i H => ∃ xs x, SqL K H a xs ∧ xs[i]? = some x, fun i H x H' => H' = H ∧ ∀ xs, SqL K H a xs → xs[i]? = some x, fun i H => ∃ xs, SqL K H a xs ∧ xs.length ≤ i⟩
def Itt (K : PySem.W.Frag) (a : Addr) : It :=
  ⟨fun i H => ∃ xs x, SqT K H a xs ∧ xs[i]? = some x, fun i H x H' => H' = H ∧ ∀ xs, SqT K H a xs → xs[i]? = some x, fun i H => ∃ xs, SqT K H a xs ∧ xs.length ≤ i⟩
/-- lo, lo + 1, .. (n of them) -/
def Itr (lo : Int) (n : Nat) : It := ⟨fun i _ => i < n, fun i H x H' => H' = H ∧ x = .int (lo + i), fun i _ => n ≤ i⟩
theorem turn_list {P : Program} {w : World} {K : PySem.W.Frag} {tg : Expr} (a it : Addr) : Turn P w K tg (Itl K a) [it] it (fun i h => h.IsListIter it a i) where
  mem := by simp
  obj := fun i h st b hb => by
    have e : b = it := by simpa using hb
    subst e
    obtain ⟨o, e, c, d⟩ := st
    exact ⟨o, e, fun v z => by rw [d] at z; cases z⟩
  keep := fun i h h' st k => st.at fun o e => k it (by simp) o e
  item := by
    intro X hP hw hK hc i pins s σ H E I hf st hg
    subst hP hw hK
    obtain ⟨xs, x, hq, hx⟩ := hg
    obtain ⟨its, rv, p, hz⟩ := I.list hq
    obtain ⟨u, hu, ru⟩ := rv.get hx
    obtain ⟨f0, f1, f2, f3, f4, f5⟩ := hf it (by simp)
    refine wpAny_pyNext_list_item st p.isList (x := u) (by simpa using hu) fun h' st' sb => ?_
    have I1 : Inv X pins σ H { s with heap := h' } := I.turned (t' := s.toks) (fun b o hb e => (sb.2 b hb).trans e) f0 f1 f3 f4 f5
    obtain ⟨o, e, c, d⟩ := id st'
    exact ⟨u, rfl, go_of (s := { s with heap := h' }) e c d (by decide) ⟨x, H, I1, ru, ⟨rfl, fun ys hy => by rw [I.list_inj hy hq]; exact hx⟩, st', fun b hb => (hf b hb).1⟩⟩
  done := by
    intro X hP hw hK hc i pins s σ H E I hf st hg
    subst hP hw hK
    obtain ⟨xs, hq, hx⟩ := hg
    obtain ⟨its, rv, p, hz⟩ := I.list hq
    obtain ⟨f0, f1, f2, f3, f4, f5⟩ := hf it (by simp)
    have hl := rv.length
    exact wpAny_pyNext_list_end (I.ok.hd hc) st p.isList (by simp; omega) fun h' eb => ⟨rfl, I.turned (t' := s.toks) (fun b o hb e => eb b o hb e) f0 f1 f3 f4 f5⟩
  self := fun _ _ _ _ _ st h => wpAny_pyIter_listiter st h
theorem turn_tuple {P : Program} {w : World} {K : PySem.W.Frag} {tg : Expr} (a it : Addr) : Turn P w K tg (Itt K a) [it] it (fun i h => h.IsTupleIter it a i) where
  mem := by simp
  obj := fun i h st b hb => by
    have e : b = it := by simpa using hb
    subst e
    obtain ⟨o, e, c, d⟩ := st
    exact ⟨o, e, fun v z => by rw [d] at z; cases z⟩
  keep := fun i h h' st k => st.at fun o e => k it (by simp) o e
  item := by
    intro X hP hw hK hc i pins s σ H E I hf st hg
    subst hP hw hK
    obtain ⟨xs, x, hq, hx⟩ := hg
    obtain ⟨its, rv, p, hz⟩ := I.tuple hq
    obtain ⟨u, hu, ru⟩ := rv.get hx
    obtain ⟨f0, f1, f2, f3, f4, f5⟩ := hf it (by simp)
    refine wpAny_pyNext_tuple_item st (show s.heap.IsTuple a its.toArray from p) (x := u) (by simpa using hu) fun h' st' sb => ?_
    have I1 : Inv X pins σ H { s with heap := h' } := I.turned (t' := s.toks) (fun b o hb e => (sb.2 b hb).trans e) f0 f1 f3 f4 f5
    obtain ⟨o, e, c, d⟩ := id st'
    exact ⟨u, rfl, go_of (s := { s with heap := h' }) e c d (by decide) ⟨x, H, I1, ru, ⟨rfl, fun ys hy => by rw [I.tuple_inj hy hq]; exact hx⟩, st', fun b hb => (hf b hb).1⟩⟩
  done := by
    intro X hP hw hK hc i pins s σ H E I hf st hg
    subst hP hw hK
    obtain ⟨xs, hq, hx⟩ := hg
    obtain ⟨its, rv, p, hz⟩ := I.tuple hq
    obtain ⟨f0, f1, f2, f3, f4, f5⟩ := hf it (by simp)
    have hl := rv.length
    exact wpAny_pyNext_tuple_end (I.ok.hd hc) st (show s.heap.IsTuple a its.toArray from p) (by simp; omega) fun h' eb => ⟨rfl, I.turned (t' := s.toks) (fun b o hb e => eb b o hb e) f0 f1 f3 f4 f5⟩
  self := fun _ _ _ _ _ st h => wpAny_pyIter_tupleiter st h
theorem turn_range {P : Program} {w : World} {K : PySem.W.Frag} {tg : Expr} (it : Addr) (lo : Int) (n : Nat) : Turn P w K tg (Itr lo n) [it] it (fun i h => IsRangeIter h it (lo + (i : Nat) * 1) ((n : Int) - (i : Nat)) 1) where
  mem := by simp
  obj := fun i h st b hb => by
    have e : b = it := by simpa using hb
    subst e
    exact ⟨_, st, fun v z => by
      have z' : Data.fields _ = Data.cell v := z
      cases z'⟩
  keep := fun i h h' st k => k it (by simp) _ st
  item := by
    intro X hP hw hK hc i pins s σ H E I hf st hg
    subst hP hw hK
    obtain ⟨f0, f1, f2, f3, f4, f5⟩ := hf it (by simp)
    have W := Walks.range (prog := X.prog) (w := X.w) (I.ok.hd hc) it lo 1 n
    refine W.item i s _ _ hg st fun v h' tk hv st' kk => ?_
    obtain ⟨t, rfl⟩ := hv
    have I1 : Inv X pins σ H { s with heap := h', toks := tk } := I.turned (fun b o hb e => kk b o (by simpa using hb) e) f0 f1 f3 f4 f5
    refine ⟨_, rfl, go_of (s := { s with heap := h', toks := tk }) (n := "range_iterator") st' rfl rfl (by decide) ⟨.int (lo + i), H, I1, ⟨t, ?_⟩, ⟨rfl, rfl⟩, st', fun b hb => (hf b hb).1⟩⟩
    rw [Int.mul_one]
  done := by
    intro X hP hw hK hc i pins s σ H E I hf st hg
    subst hP hw hK
    obtain ⟨f0, f1, f2, f3, f4, f5⟩ := hf it (by simp)
    exact wpAny_pyNext_range_end (I.ok.hd hc) st (by have : n ≤ i := hg; omega) fun h' eb => ⟨rfl, I.turned (t' := s.toks) (fun b o hb e => eb b o hb e) f0 f1 f3 f4 f5⟩
  self := fun _ _ _ _ _ st h => wpAny_pyIter_rangeiter st h
end L2

namespace L2
open PySem PySem.Spec PyProof.Rows
section
variable {X : Cx} {tg : Expr}
def iList (K : PySem.W.Frag) (tl : TE) : TI := fun σ H R => tl σ H fun x H1 => ∃ a, x = .ref a ∧ (∃ xs, SqL K H1 a xs) ∧ R (Itl K a) H1
def iTup (K : PySem.W.Frag) (tl : TE) : TI := fun σ H R => tl σ H fun x H1 => ∃ a, x = .ref a ∧ (∃ xs, SqT K H1 a xs) ∧ R (Itt K a) H1
theorem pi_list {l : Expr} {tl : TE} (hl : PE X l tl) : PI X tg l (iList X.K tl) := by
  intro pins s σ H R I h
  refine thn (hl pins s σ H _ I h) fun v s1 ⟨x, H1, I1, r1, q1⟩ => ?_
  obtain ⟨a, e, ⟨xs, hq⟩, q⟩ := q1
  subst e
  cases r1
  obtain ⟨its, rv, p, hz⟩ := I1.list hq
  refine wpAny_pyIter_list p.isList ?_
  refine ⟨s1.heap.objs.size, [s1.heap.objs.size], _, _, H1, rfl, I1.kept (t' := s1.toks) fun b o e => Heap.get?_push_of_some _ e, turn_list a _, ⟨_, Heap.get?_push_size _ rfl, rfl, rfl⟩, fun b hb => ?_, q⟩
  have e : b = s1.heap.objs.size := by simpa using hb
  subst e
  exact I1.fpOk (Nat.le_refl _) (I1.hok.fresh (Nat.le_refl _))
theorem pi_tup {l : Expr} {tl : TE} (hl : PE X l tl) : PI X tg l (iTup X.K tl) := by
  intro pins s σ H R I h
  refine thn (hl pins s σ H _ I h) fun v s1 ⟨x, H1, I1, r1, q1⟩ => ?_
  obtain ⟨a, e, ⟨xs, hq⟩, q⟩ := q1
  subst e
  cases r1
  obtain ⟨its, rv, p, hz⟩ := I1.tuple hq
  refine wpAny_pyIter_tuple (show s1.heap.IsTuple a its.toArray from p) ?_
  refine ⟨s1.heap.objs.size, [s1.heap.objs.size], _, _, H1, rfl, I1.kept (t' := s1.toks) fun b o e => Heap.get?_push_of_some _ e, turn_tuple a _, ⟨_, Heap.get?_push_size _ rfl, rfl, rfl⟩, fun b hb => ?_, q⟩
  have e : b = s1.heap.objs.size := by simpa using hb
  subst e
  exact I1.fpOk (Nat.le_refl _) (I1.hok.fresh (Nat.le_refl _))
/-- a range object just made, walked -/
theorem range_it {pins : List (Addr × Obj)} {σ : St} {H : Hp} {s : Shared} {R : It → Hp → Prop} {E : Value → Shared → Prop} {lo hi : Int} {t u v : Tok} {tk : Nat} (I : Inv X pins σ H s) (h1 : -(2 ^ 62) ≤ lo) (h2 : lo < 2 ^ 62) (h3 : -(2 ^ 62) ≤ hi) (h4 : hi < 2 ^ 62)
    (q : R (Itr lo (hi - lo).toNat) H) : wpAny (model X.prog X.w) X.A (pyIter (.ref s.heap.objs.size)) (PIE X pins σ tg R) E { s with heap := s.heap.push { cls := .type "range", data := .fields #[.int lo t, .int hi u, .int 1 v] }, toks := tk } := by
  refine wpAny_pyIter_range (IsRange.new ..) (small_one h1 h2 h3 h4) ?_
  have I1 : Inv X pins σ H { s with heap := s.heap.push { cls := .type "range", data := .fields #[.int lo t, .int hi u, .int 1 v] }, toks := tk } := I.kept fun b o e => Heap.get?_push_of_some _ e
  refine ⟨(s.heap.push { cls := .type "range", data := .fields #[.int lo t, .int hi u, .int 1 v] }).objs.size, [(s.heap.push { cls := .type "range", data := .fields #[.int lo t, .int hi u, .int 1 v] }).objs.size], _, _, H, rfl,
    I1.kept (t' := tk) fun b o e => Heap.get?_push_of_some _ e, turn_range _ lo (hi - lo).toNat, ?_, fun b hb => ?_, q⟩
  · have e1 : lo + ((0 : Nat) : Int) * 1 = lo := by simp
    have e2 : (((hi - lo).toNat : Nat) : Int) - ((0 : Nat) : Int) = Builtin.Range.rangeSize lo hi 1 := by rw [rangeSize_one]; split <;> omega
    show IsRangeIter _ _ (lo + ((0 : Nat) : Int) * 1) ((((hi - lo).toNat : Nat) : Int) - ((0 : Nat) : Int)) 1
    rw [e1, e2]
    exact Heap.get?_push_size _ rfl
  · have e : b = (s.heap.push { cls := .type "range", data := .fields #[.int lo t, .int hi u, .int 1 v] }).objs.size := by simpa using hb
    subst e
    exact I1.fpOk (Nat.le_refl _) (I1.hok.fresh (Nat.le_refl _))
def iRng1 (ta : TA) : TI := fun σ H R => ta σ H fun vs H1 => ∃ j : Int, vs = [.int j] ∧ -(2 ^ 62) ≤ j ∧ j < 2 ^ 62 ∧ R (Itr 0 j.toNat) H1
def iRng2 (ta : TA) : TI := fun σ H R => ta σ H fun vs H1 => ∃ i j : Int, vs = [.int i, .int j] ∧ (-(2 ^ 62) ≤ i ∧ i < 2 ^ 62 ∧ -(2 ^ 62) ≤ j ∧ j < 2 ^ 62) ∧ R (Itr i (j - i).toNat) H1
theorem pi_range1 {a : Expr} {ta : TA} {p pos : Pos} (hg : Gl X "range") (hm : X.mg "range" = none) (ha : PA X [a] ta) (hs : starEach [a] X.env = [(false, eval a X.env)] := by rfl) : PI X tg (.Call (.Name "range" p) [a] [] pos) (iRng1 ta) := by
  intro pins s σ H R I h
  refine Call_ (ld_blt I hg hm boot_range (PyProof.Rows.callWith_type1 (thn (ha pos pins s σ H _ I h) fun us s1 ⟨vs, H1, I1, r1, q1⟩ => ?_) hs rfl))
  obtain ⟨j, e, q1, q2, q⟩ := q1
  subst e
  cases r1 with
  | cons r rr =>
    cases rr
    obtain ⟨t, rfl⟩ := r
    exact call_range_1 (range_it I1 (by omega) (by omega) q1 q2 (by simpa using q))
theorem pi_range2 {a b : Expr} {ta : TA} {p pos : Pos} (hg : Gl X "range") (hm : X.mg "range" = none) (ha : PA X [a, b] ta) (hs : starEach [a, b] X.env = [(false, eval a X.env), (false, eval b X.env)] := by rfl) (hs2 : starEach [b] X.env = [(false, eval b X.env)] := by rfl) :
    PI X tg (.Call (.Name "range" p) [a, b] [] pos) (iRng2 ta) := by
  intro pins s σ H R I h
  refine Call_ (ld_blt I hg hm boot_range (PyProof.Rows.callWith_type1 (thn (ha pos pins s σ H _ I h) fun us s1 ⟨vs, H1, I1, r1, q1⟩ => ?_) (by rw [hs, hs2]) (by rw [hs2]; rfl)))
  obtain ⟨i, j, e, ⟨q1, q2, q3, q4⟩, q⟩ := q1
  subst e
  cases r1 with
  | cons r rr =>
    cases rr with
    | cons r' rr =>
      cases rr
      obtain ⟨t, rfl⟩ := r
      obtain ⟨t', rfl⟩ := r'
      exact call_range_2 (range_it I1 q1 q2 q3 q4 q)

/-! ### for -/
/-- W: the invariant by the turn and a measure; N: what the body is to reach -/
def tFor (wi : TI) (g : TG) (tb : TS) : TS := fun D σ H => wi σ H fun J H1 => ∃ W : Nat → Nat → St → Hp → Prop, (∃ m, W 0 m σ H1) ∧ ∀ i m σ H, W i m σ H →
  (J.stop i H ∧ D.nx σ H) ∨ (J.go i H ∧ ∃ N : St → Hp → Prop, (∀ σ' H', N σ' H' → ∃ m', m' < m ∧ W (i + 1) m' σ' H') ∧ ∀ x H', J.yld i H x H' → g x σ H' fun σ2 H2 => tb { D with nx := N, ct := N, bk := D.nx } σ2 H2)
/-- the records at fp as they stand -/
def pinsAt (fp : List Addr) (h : Heap) : List (Addr × Obj) := fp.filterMap fun b => (h.get? b).map fun o => (b, o)
theorem mem_pinsAt {fp : List Addr} {h : Heap} {b : Addr} {o : Obj} (hb : b ∈ fp) (e : h.get? b = some o) : (b, o) ∈ pinsAt fp h := List.mem_filterMap.mpr ⟨b, hb, by rw [e]; rfl⟩
theorem of_pinsAt {fp : List Addr} {h : Heap} {p : Addr × Obj} (hp : p ∈ pinsAt fp h) : p.1 ∈ fp ∧ h.get? p.1 = some p.2 := by
  obtain ⟨b, hb, e⟩ := List.mem_filterMap.mp hp
  cases q : h.get? b with
  | none => rw [q] at e; cases e
  | some o =>
    rw [q] at e
    have e' : (b, o) = p := Option.some.inj e
    subst e'
    exact ⟨hb, q⟩
theorem Inv.pinned {pins : List (Addr × Obj)} {σ : St} {H : Hp} {s : Shared} {fp : List Addr} (I : Inv X pins σ H s) (hf : ∀ b ∈ fp, FpOk X pins H b) (ho : ∀ b ∈ fp, ∃ o, s.heap.get? b = some o ∧ ∀ v, o.data ≠ .cell v) : Inv X (pins ++ pinsAt fp s.heap) σ H s :=
  I.pins_of fun p hp => (List.mem_append.mp hp).elim (fun z => I.pin p (List.mem_append_right _ z)) fun z => by
    obtain ⟨hb, e⟩ := of_pinsAt z
    obtain ⟨f0, f1, f2, _⟩ := hf p.1 hb
    obtain ⟨o, e', d⟩ := ho p.1 hb
    rw [e] at e'; cases e'
    exact ⟨e, f0, f1, f2, d⟩
theorem Inv.unpinned {pins pl : List (Addr × Obj)} {σ : St} {H : Hp} {s : Shared} (I : Inv X (pins ++ pl) σ H s) : Inv X pins σ H s := I.pins_of fun p hp => I.pin p (List.mem_append_right _ (List.mem_append_left _ hp))
theorem ps_for {iter : Expr} {body : List Stmt} {wi : TI} {g : TG} {tb : TS} {pos : Pos} (hp : PassesOwn (model X.prog X.w) X.A X.env X.xe) (hc : X.calm = true) (hi : PI X tg iter wi) (hg : PG X tg g) (hb : PSs X body tb)
    (hs : ∀ x, foldedSetIterable iter X.env x = pure x := by intro _; rfl) : PS X (.For tg iter body [] pos) (tFor wi g tb) := by
  intro pins s σ H D I h
  refine wpAny_For (thn (hi pins s σ H _ I h) fun v s1 h1 => thn h1 fun itv s2 h2 => ?_) hs
  obtain ⟨it, fp, tn, J, H2, e, I2, T, st2, f2, W, ⟨m0, w0⟩, turn⟩ := h2
  subst e
  -- what stays true of the iterator's objects through the loop
  have stat : ∀ {H' : Hp}, (∀ b ∈ fp, H' b = none) → ∀ b ∈ fp, FpOk X pins H' b := fun hn b hb => ⟨hn b hb, (f2 b hb).2⟩
  refine codeAny_forLoop_any (fun n s' => ∃ i σ' H', Inv X pins σ' H' s' ∧ tn i s'.heap ∧ (∀ b ∈ fp, H' b = none) ∧ W i n σ' H') ?_ m0 ⟨0, σ, H2, I2, st2, fun b hb => (f2 b hb).1, w0⟩
  rintro n s3 ⟨i, σ3, H3, I3, st3, fr3, w3⟩
  rcases turn i n σ3 H3 w3 with ⟨stop, qn⟩ | ⟨go, N, hN, step⟩
  · refine wpAny_passesOwn hp (thn (T.done X rfl rfl rfl hc i pins s3 σ3 H3 X.xe I3 (stat fr3) st3 stop) fun r s4 ⟨hr, I4⟩ => ?_)
    subst hr
    exact wpAny_execs_nil ⟨σ3, H3, I4, qn⟩
  · refine wpAny_passesOwn hp (thn (T.item X rfl rfl rfl hc i pins s3 σ3 H3 X.xe I3 (stat fr3) st3 go) fun r s4 ⟨u, hr, h4⟩ => ?_)
    subst hr
    refine wpAny_passesOwn hp (thn h4 fun _ s5 ⟨x, H5, I5, r5, y5, st5, fr5⟩ => ?_)
    have I5' := I5.pinned (stat fr5) (T.obj _ _ st5)
    refine wpAny_passesOwn hp (thn (hg _ s5 σ3 H5 x u _ I5' r5 (step x H5 y5)) fun _ s6 ⟨σ6, H6, I6, q6⟩ => ?_)
    refine wpAny_passesOwn hp (thn (hb _ s6 σ6 H6 _ I6 q6) fun f s7 q7 => ?_)
    have again : ∀ {σ7 : St} {H7 : Hp}, Inv X (pins ++ pinsAt fp s5.heap) σ7 H7 s7 → N σ7 H7 → ∃ m, m < n ∧ ∃ i σ' H', Inv X pins σ' H' s7 ∧ tn i s7.heap ∧ (∀ b ∈ fp, H' b = none) ∧ W i m σ' H' := fun {σ7 H7} I7 n7 => by
      obtain ⟨m', hm, w7⟩ := hN σ7 H7 n7
      refine ⟨m', hm, i + 1, σ7, H7, I7.unpinned, T.keep _ _ _ st5 fun b hb o e => (I7.pin (b, o) (List.mem_append_right _ (List.mem_append_right _ (mem_pinsAt hb e)))).1, fun b hb => ?_, w7⟩
      obtain ⟨o, e, d⟩ := T.obj _ _ st5 b hb
      exact (I7.pin (b, o) (List.mem_append_right _ (List.mem_append_right _ (mem_pinsAt hb e)))).2.1
    cases f with
    | next => obtain ⟨σ7, H7, I7, n7⟩ := q7; exact again I7 n7
    | cont => obtain ⟨σ7, H7, I7, n7⟩ := q7; exact again I7 n7
    | brk => obtain ⟨σ7, H7, I7, q7⟩ := q7; exact ⟨σ7, H7, I7.unpinned, q7⟩
    | ret v => obtain ⟨x7, σ7, H7, I7, r7, q7⟩ := q7; exact ⟨x7, σ7, H7, I7.unpinned, r7, q7⟩
end

/-! ### the forms one uses -/
/-- over a list that the body leaves as it is -/
theorem for_list {K : PySem.W.Frag} {a : Addr} {xs : List V} {g : TG} {tb : TS} {D : Ends} {σ : St} {H : Hp} (Pv : Nat → St → Hp → Prop) (h0 : Pv 0 σ H) (hl : ∀ i σ H, i ≤ xs.length → Pv i σ H → SqL K H a xs)
    (hs : ∀ i x σ H, xs[i]? = some x → Pv i σ H → g x σ H fun σ2 H2 => tb { D with nx := Pv (i + 1), ct := Pv (i + 1), bk := D.nx } σ2 H2) (hd : ∀ σ H, Pv xs.length σ H → D.nx σ H) :
    ∃ W : Nat → Nat → St → Hp → Prop, (∃ m, W 0 m σ H) ∧ ∀ i m σ H, W i m σ H →
      ((Itl K a).stop i H ∧ D.nx σ H) ∨ ((Itl K a).go i H ∧ ∃ N : St → Hp → Prop, (∀ σ' H', N σ' H' → ∃ m', m' < m ∧ W (i + 1) m' σ' H') ∧ ∀ x H', (Itl K a).yld i H x H' → g x σ H' fun σ2 H2 => tb { D with nx := N, ct := N, bk := D.nx } σ2 H2) := by
  refine ⟨fun i m σ H => m = xs.length - i ∧ i ≤ xs.length ∧ Pv i σ H, ⟨xs.length, by simp, Nat.zero_le _, h0⟩, ?_⟩
  rintro i m σ H ⟨rfl, hi, p⟩
  have q := hl i σ H hi p
  by_cases hlt : i < xs.length
  · refine .inr ⟨⟨xs, xs[i], q, by simp [hlt]⟩, Pv (i + 1), fun σ' H' p' => ⟨xs.length - (i + 1), by omega, rfl, hlt, p'⟩, fun x H' y => ?_⟩
    obtain ⟨e, y⟩ := y
    subst e
    exact hs i x σ _ (y xs q) p
  · have e : i = xs.length := by omega
    subst e
    exact .inl ⟨⟨xs, q, Nat.le_refl _⟩, hd σ H p⟩
theorem for_tup {K : PySem.W.Frag} {a : Addr} {xs : List V} {g : TG} {tb : TS} {D : Ends} {σ : St} {H : Hp} (Pv : Nat → St → Hp → Prop) (h0 : Pv 0 σ H) (hl : ∀ i σ H, i ≤ xs.length → Pv i σ H → SqT K H a xs)
    (hs : ∀ i x σ H, xs[i]? = some x → Pv i σ H → g x σ H fun σ2 H2 => tb { D with nx := Pv (i + 1), ct := Pv (i + 1), bk := D.nx } σ2 H2) (hd : ∀ σ H, Pv xs.length σ H → D.nx σ H) :
    ∃ W : Nat → Nat → St → Hp → Prop, (∃ m, W 0 m σ H) ∧ ∀ i m σ H, W i m σ H →
      ((Itt K a).stop i H ∧ D.nx σ H) ∨ ((Itt K a).go i H ∧ ∃ N : St → Hp → Prop, (∀ σ' H', N σ' H' → ∃ m', m' < m ∧ W (i + 1) m' σ' H') ∧ ∀ x H', (Itt K a).yld i H x H' → g x σ H' fun σ2 H2 => tb { D with nx := N, ct := N, bk := D.nx } σ2 H2) := by
  refine ⟨fun i m σ H => m = xs.length - i ∧ i ≤ xs.length ∧ Pv i σ H, ⟨xs.length, by simp, Nat.zero_le _, h0⟩, ?_⟩
  rintro i m σ H ⟨rfl, hi, p⟩
  have q := hl i σ H hi p
  by_cases hlt : i < xs.length
  · refine .inr ⟨⟨xs, xs[i], q, by simp [hlt]⟩, Pv (i + 1), fun σ' H' p' => ⟨xs.length - (i + 1), by omega, rfl, hlt, p'⟩, fun x H' y => ?_⟩
    obtain ⟨e, y⟩ := y
    subst e
    exact hs i x σ _ (y xs q) p
  · have e : i = xs.length := by omega
    subst e
    exact .inl ⟨⟨xs, q, Nat.le_refl _⟩, hd σ H p⟩
theorem for_range {lo : Int} {n : Nat} {g : TG} {tb : TS} {D : Ends} {σ : St} {H : Hp} (Pv : Nat → St → Hp → Prop) (h0 : Pv 0 σ H)
    (hs : ∀ i σ H, i < n → Pv i σ H → g (.int (lo + i)) σ H fun σ2 H2 => tb { D with nx := Pv (i + 1), ct := Pv (i + 1), bk := D.nx } σ2 H2) (hd : ∀ σ H, Pv n σ H → D.nx σ H) :
    ∃ W : Nat → Nat → St → Hp → Prop, (∃ m, W 0 m σ H) ∧ ∀ i m σ H, W i m σ H →
      ((Itr lo n).stop i H ∧ D.nx σ H) ∨ ((Itr lo n).go i H ∧ ∃ N : St → Hp → Prop, (∀ σ' H', N σ' H' → ∃ m', m' < m ∧ W (i + 1) m' σ' H') ∧ ∀ x H', (Itr lo n).yld i H x H' → g x σ H' fun σ2 H2 => tb { D with nx := N, ct := N, bk := D.nx } σ2 H2) := by
  refine ⟨fun i m σ H => m = n - i ∧ i ≤ n ∧ Pv i σ H, ⟨n, by simp, Nat.zero_le _, h0⟩, ?_⟩
  rintro i m σ H ⟨rfl, hi, p⟩
  by_cases hlt : i < n
  · refine .inr ⟨hlt, Pv (i + 1), fun σ' H' p' => ⟨n - (i + 1), by omega, rfl, hlt, p'⟩, fun x H' y => ?_⟩
    obtain ⟨e, y⟩ := y
    subst e y
    exact hs i σ _ hlt p
  · have e : i = n := by omega
    subst e
    exact .inl ⟨Nat.le_refl _, hd σ H p⟩
/-- while, by a word and a measure of the state -/
theorem while_by {c : TT} {tb : TS} {D : Ends} {σ : St} {H : Hp} (Pv : St → Hp → Prop) (μ : St → Hp → Nat) (h0 : Pv σ H)
    (hs : ∀ σ H, Pv σ H → c σ H fun b H1 => if b = true then tb { D with nx := fun σ' H' => Pv σ' H' ∧ μ σ' H' < μ σ H, ct := fun σ' H' => Pv σ' H' ∧ μ σ' H' < μ σ H, bk := D.nx } σ H1 else D.nx σ H1)
    (mono : ∀ σ H Q Q', (∀ b H1, Q b H1 → Q' b H1) → c σ H Q → c σ H Q') : tWhile c tb D σ H := by
  refine ⟨fun m σ H => m = μ σ H ∧ Pv σ H, ⟨_, rfl, h0⟩, ?_⟩
  rintro m σ H ⟨rfl, p⟩
  refine mono σ H _ _ (fun b H1 q => ?_) (hs σ H p)
  cases b with
  | true => exact ⟨_, fun σ' H' ⟨p', l⟩ => ⟨_, l, rfl, p'⟩, q⟩
  | false => exact q
end L2

namespace L2
open PySem PySem.Spec PyProof.Rows

abbrev R2 := V → V → Hp → VK → Prop
/-- a two-place operation on values: f is binaryOp op, inplaceOp op or compareOp op -/
def OpR (X : Cx) (f : Value → Value → Sem Value) (r : R2) : Prop :=
  ∀ (pins : List (Addr × Obj)) (s : Shared) (σ : St) (H : Hp) (x y : V) (v u : Value) (Q : VK), Inv X pins σ H s → RelV x v → RelV y u → r x y H Q →
    wpAny (model X.prog X.w) X.A (f v u) (EP X pins σ Q) X.xe s
/-- a one-place operation -/
def UnR (X : Cx) (f : Value → Sem Value) (r : V → Hp → VK → Prop) : Prop :=
  ∀ (pins : List (Addr × Obj)) (s : Shared) (σ : St) (H : Hp) (x : V) (v : Value) (Q : VK), Inv X pins σ H s → RelV x v → r x H Q →
    wpAny (model X.prog X.w) X.A (f v) (EP X pins σ Q) X.xe s
/-- a call of a value that is known (a builtin, a type) with values -/
def CallR (X : Cx) (f : Value) (r : List V → Hp → VK → Prop) : Prop :=
  ∀ (pins : List (Addr × Obj)) (s : Shared) (σ : St) (H : Hp) (xs : List V) (us : List Value) (Q : VK), Inv X pins σ H s → Vals xs us → r xs H Q →
    wpAny (model X.prog X.w) X.A (call f us) (EP X pins σ Q) X.xe s
/-- a value's truth -/
def TruR (X : Cx) (r : V → Hp → (Bool → Hp → Prop) → Prop) : Prop :=
  ∀ (pins : List (Addr × Obj)) (s : Shared) (σ : St) (H : Hp) (x : V) (v : Value) (Q : Bool → Hp → Prop), Inv X pins σ H s → RelV x v → r x H Q →
    wpAny (model X.prog X.w) X.A (truthy v) (TP X pins σ Q) X.xe s

def tOp (r : R2) (ta tb : TE) : TE := fun σ H Q => ta σ H fun x H1 => tb σ H1 fun y H2 => r x y H2 Q
def tUn (r : V → Hp → VK → Prop) (ta : TE) : TE := fun σ H Q => ta σ H fun x H1 => r x H1 Q
/-- ints in, under C, and a value out -/
def rI (C : Int → Int → Prop) (g : Int → Int → V) : R2 := fun x y H Q => ∃ i j, x = .int i ∧ y = .int j ∧ C i j ∧ Q (g i j) H
def rI0 (g : Int → Int → V) : R2 := fun x y H Q => ∃ i j, x = .int i ∧ y = .int j ∧ Q (g i j) H
def rU (g : Int → V) : V → Hp → VK → Prop := fun x H Q => ∃ i, x = .int i ∧ Q (g i) H

section
variable {X : Cx} {a b c : Expr} {ta tb tc : TE} {pos : Pos}

theorem binT (ha : PE X a ta) (hb : PE X b tb) {pins : List (Addr × Obj)} {s : Shared} {σ : St} {H : Hp} {R : V → V → Hp → Prop} (I : Inv X pins σ H s)
    (h : ta σ H fun x H1 => tb σ H1 fun y H2 => R x y H2) {Q : Value → Shared → Prop} {f : Value → Value → Sem Value}
    (hf : ∀ v u s2 x y H2, Inv X pins σ H2 s2 → RelV x v → RelV y u → R x y H2 → wpAny (model X.prog X.w) X.A (f v u) Q X.xe s2) :
    wpAny (model X.prog X.w) X.A (eval a X.env) (fun v s₁ => wpAny (model X.prog X.w) X.A (eval b X.env) (fun u s₂ => wpAny (model X.prog X.w) X.A (f v u) Q X.xe s₂) X.xe s₁) X.xe s := by
  refine thn (ha pins s σ H _ I h) fun v s1 ⟨x, H1, I1, r1, q1⟩ => ?_
  refine thn (hb pins s1 σ H1 _ I1 q1) fun u s2 ⟨y, H2, I2, r2, q2⟩ => ?_
  exact hf v u s2 x y H2 I2 r1 r2 q2

theorem pe_op {op : Operator} {r : R2} (ho : OpR X (binaryOp op) r) (ha : PE X a ta) (hb : PE X b tb) : PE X (.BinOp a op b pos) (tOp r ta tb) := by
  intro pins s σ H Q I h
  exact wpAny_BinOp (binT ha hb I h fun v u s2 x y H2 I2 rx ry q => ho pins s2 σ H2 x y v u Q I2 rx ry q)
theorem pe_un {op : UnaryOp} {r : V → Hp → VK → Prop} (ho : UnR X (unaryOp op) r) (ha : PE X a ta) : PE X (.UnaryOp op a pos) (tUn r ta) := by
  intro pins s σ H Q I h
  exact UnaryOp_ (thn (ha pins s σ H _ I h) fun v s1 ⟨x, H1, I1, r1, q1⟩ => ho pins s1 σ H1 x v Q I1 r1 q1)
/-- a op= e at a name: the name's slot i -/
theorem augR {op : Operator} {r : R2} (ho : OpR X (inplaceOp op) r) {pins : List (Addr × Obj)} {s : Shared} {σ : St} {H : Hp} {x y : V} {v u : Value} {Q : VK} (I : Inv X pins σ H s)
    (rx : RelV x v) (ry : RelV y u) (q : r x y H Q) : wpAny (model X.prog X.w) X.A (inplaceOp op v u) (EP X pins σ Q) X.xe s := ho pins s σ H x y v u Q I rx ry q

/-! ### ints -/
theorem opI {f : Value → Value → Sem Value} {C : Int → Int → Prop} {g : Int → Int → Int}
    (rule : ∀ (i j : Int) (t u : Tok) (s : Shared) (Q : Value → Shared → Prop) (E : Value → Shared → Prop), C i j → Q (.int (g i j) s.toks) { s with toks := s.toks + 1 } → wpAny (model X.prog X.w) X.A (f (.int i t) (.int j u)) Q E s) :
    OpR X f (rI C fun i j => .int (g i j)) := by
  intro pins s σ H x y v u Q I rx ry h
  obtain ⟨i, j, rfl, rfl, hc, q⟩ := h
  obtain ⟨t, rfl⟩ := rx
  obtain ⟨t', rfl⟩ := ry
  exact rule i j t t' s _ _ hc ⟨.int (g i j), H, I.tok _, ⟨_, rfl⟩, q⟩
theorem opI0 {f : Value → Value → Sem Value} {g : Int → Int → Int}
    (rule : ∀ (i j : Int) (t u : Tok) (s : Shared) (Q : Value → Shared → Prop) (E : Value → Shared → Prop), Q (.int (g i j) s.toks) { s with toks := s.toks + 1 } → wpAny (model X.prog X.w) X.A (f (.int i t) (.int j u)) Q E s) :
    OpR X f (rI0 fun i j => .int (g i j)) := by
  intro pins s σ H x y v u Q I rx ry h
  obtain ⟨i, j, rfl, rfl, q⟩ := h
  obtain ⟨t, rfl⟩ := rx
  obtain ⟨t', rfl⟩ := ry
  exact rule i j t t' s _ _ ⟨.int (g i j), H, I.tok _, ⟨_, rfl⟩, q⟩
theorem opB0 {f : Value → Value → Sem Value} {g : Int → Int → Bool}
    (rule : ∀ (i j : Int) (t u : Tok) (s : Shared) (Q : Value → Shared → Prop) (E : Value → Shared → Prop), Q (.bool (g i j)) s → wpAny (model X.prog X.w) X.A (f (.int i t) (.int j u)) Q E s) :
    OpR X f (rI0 fun i j => .bl (g i j)) := by
  intro pins s σ H x y v u Q I rx ry h
  obtain ⟨i, j, rfl, rfl, q⟩ := h
  obtain ⟨t, rfl⟩ := rx
  obtain ⟨t', rfl⟩ := ry
  exact rule i j t t' s _ _ ⟨.bl (g i j), H, I, rfl, q⟩

def CDiv (i j : Int) : Prop := 0 < j ∧ j < 1073741824
def CDivN (i j : Int) : Prop := j ≠ 0 ∧ j.natAbs < 1073741824
def CPow (i j : Int) : Prop := 0 ≤ j ∧ j ≤ 1000000 ∧ i.natAbs < 2 ^ 64
def CMul (i j : Int) : Prop := (-(2 ^ 64) < i ∧ i < 2 ^ 64) ∨ (-(2 ^ 64) < j ∧ j < 2 ^ 64)
theorem CMul.ok {i j : Int} (h : CMul i j) : IntMulOk i j := by
  rcases h with ⟨h1, h2⟩ | ⟨h1, h2⟩
  · exact .of_left (intBits_le_64 h1 h2)
  · exact .of_right (intBits_le_64 h1 h2)
theorem two_pow_nn (k : Nat) : (0 : Int) ≤ 2 ^ k := by
  rw [two_pow_cast]
  exact Int.natCast_nonneg _

theorem op_add : OpR X (binaryOp .Add) (rI0 fun i j => .int (i + j)) := opI0 fun _ _ _ _ _ _ _ q => add_int q
theorem op_sub : OpR X (binaryOp .Sub) (rI0 fun i j => .int (i - j)) := opI0 fun _ _ _ _ _ _ _ q => sub_int q
theorem op_mul : OpR X (binaryOp .Mult) (rI CMul fun i j => .int (i * j)) := opI fun _ _ _ _ _ _ _ hc q => mul_int q hc.ok
/-- // by a positive divisor -/
theorem op_fdiv : OpR X (binaryOp .FloorDiv) (rI CDiv fun i j => .int (i / j)) := opI fun i j _ _ _ _ _ hc q => by
  have h1 : (0 : Int) < j := hc.1
  have h2 : j < 1073741824 := hc.2
  exact floordiv_int (by omega) (by rw [Int.fdiv_eq_ediv_of_nonneg i (by omega)]; exact q) (.inl (PyProof.noPylong_small (by omega)))
theorem op_fdivN : OpR X (binaryOp .FloorDiv) (rI CDivN fun i j => .int (i.fdiv j)) := opI fun _ _ _ _ _ _ _ hc q => floordiv_int hc.1 q (.inl (PyProof.noPylong_small hc.2))
/-- % by a positive divisor of any size -/
theorem op_mod : OpR X (binaryOp .Mod) (rI (fun _ j => 0 < j) fun i j => .int (i % j)) := opI fun i j _ _ _ _ _ hc q => by
  have h1 : (0 : Int) < j := hc
  exact mod_int' (by omega) (by rw [Int.fmod_eq_emod_of_nonneg i (by omega)]; exact q)
theorem op_modN : OpR X (binaryOp .Mod) (rI (fun _ j => j ≠ 0) fun i j => .int (i.fmod j)) := opI fun _ _ _ _ _ _ _ hc q => mod_int' hc q
theorem op_pow : OpR X (binaryOp .Pow) (rI CPow fun i j => .int (i ^ j.toNat)) := opI fun _ _ _ _ _ _ _ hc q => pow_int_small hc.1 hc.2.1 hc.2.2 q
theorem op_shl : OpR X (binaryOp .LShift) (rI CPow fun i j => .int (i * 2 ^ j.toNat)) := opI fun _ _ _ _ _ _ _ hc q => lshift_int_small hc.1 hc.2.1 hc.2.2 q
theorem op_shr : OpR X (binaryOp .RShift) (rI (fun _ j => 0 ≤ j) fun i j => .int (i / 2 ^ j.toNat)) := opI fun i j _ _ _ _ _ hc q =>
  rshift_int hc (by rw [Int.fdiv_eq_ediv_of_nonneg i (two_pow_nn _)]; exact q)
theorem op_and : OpR X (binaryOp .BitAnd) (rI0 fun i j => .int (Builtin.bitAnd i j)) := opI0 fun _ _ _ _ _ _ _ q => and_int q
theorem op_or : OpR X (binaryOp .BitOr) (rI0 fun i j => .int (Builtin.bitOr i j)) := opI0 fun _ _ _ _ _ _ _ q => or_int q
theorem op_xor : OpR X (binaryOp .BitXor) (rI0 fun i j => .int (Builtin.bitXor i j)) := opI0 fun _ _ _ _ _ _ _ q => xor_int q

theorem iop_add : OpR X (inplaceOp .Add) (rI0 fun i j => .int (i + j)) := opI0 fun _ _ _ _ _ _ _ q => iadd_int q
theorem iop_sub : OpR X (inplaceOp .Sub) (rI0 fun i j => .int (i - j)) := opI0 fun _ _ _ _ _ _ _ q => isub_int q
theorem iop_mul : OpR X (inplaceOp .Mult) (rI CMul fun i j => .int (i * j)) := opI fun _ _ _ _ _ _ _ hc q => imul_int q hc.ok
theorem iop_fdiv : OpR X (inplaceOp .FloorDiv) (rI CDiv fun i j => .int (i / j)) := opI fun i j _ _ _ _ _ hc q => by
  have h1 : (0 : Int) < j := hc.1
  have h2 : j < 1073741824 := hc.2
  exact ifloordiv_int (by omega) (by rw [Int.fdiv_eq_ediv_of_nonneg i (by omega)]; exact q) (.inl (PyProof.noPylong_small (by omega)))
theorem iop_mod : OpR X (inplaceOp .Mod) (rI (fun _ j => 0 < j) fun i j => .int (i % j)) := opI fun i j _ _ _ _ _ hc q => by
  have h1 : (0 : Int) < j := hc
  exact imod_int (by omega) (by rw [Int.fmod_eq_emod_of_nonneg i (by omega)]; exact q)
theorem iop_shl : OpR X (inplaceOp .LShift) (rI CPow fun i j => .int (i * 2 ^ j.toNat)) := opI fun _ _ _ _ _ _ _ hc q => ilshift_int_small hc.1 hc.2.1 hc.2.2 q
theorem iop_shr : OpR X (inplaceOp .RShift) (rI (fun _ j => 0 ≤ j) fun i j => .int (i / 2 ^ j.toNat)) := opI fun i j _ _ _ _ _ hc q =>
  irshift_int hc (by rw [Int.fdiv_eq_ediv_of_nonneg i (two_pow_nn _)]; exact q)
theorem iop_and : OpR X (inplaceOp .BitAnd) (rI0 fun i j => .int (Builtin.bitAnd i j)) := opI0 fun _ _ _ _ _ _ _ q => iand_int q
theorem iop_or : OpR X (inplaceOp .BitOr) (rI0 fun i j => .int (Builtin.bitOr i j)) := opI0 fun _ _ _ _ _ _ _ q => ior_int q
theorem iop_xor : OpR X (inplaceOp .BitXor) (rI0 fun i j => .int (Builtin.bitXor i j)) := opI0 fun _ _ _ _ _ _ _ q => ixor_int q

theorem unI {f : Value → Sem Value} {g : Int → Int}
    (rule : ∀ (i : Int) (t : Tok) (s : Shared) (Q : Value → Shared → Prop) (E : Value → Shared → Prop), Q (.int (g i) s.toks) { s with toks := s.toks + 1 } → wpAny (model X.prog X.w) X.A (f (.int i t)) Q E s) :
    UnR X f (rU fun i => .int (g i)) := by
  intro pins s σ H x v Q I rx h
  obtain ⟨i, rfl, q⟩ := h
  obtain ⟨t, rfl⟩ := rx
  exact rule i t s _ _ ⟨.int (g i), H, I.tok _, ⟨_, rfl⟩, q⟩
theorem un_neg : UnR X (unaryOp .USub) (rU fun i => .int (-i)) := unI fun _ _ _ _ _ q => neg_int q
theorem un_inv : UnR X (unaryOp .Invert) (rU fun i => .int (Builtin.bitNot i)) := unI fun _ _ _ _ _ q => invert_int q

/-! ### bools among ints: n += (a < b) -/
theorem op_add_ib : OpR X (binaryOp .Add) (fun x y H Q => ∃ i k, x = .int i ∧ y = .bl k ∧ Q (.int (i + b2i k)) H) := by
  intro pins s σ H x y v u Q I rx ry h
  obtain ⟨i, k, rfl, rfl, q⟩ := h
  obtain ⟨t, rfl⟩ := rx
  cases ry
  exact add_int_bool ⟨.int (i + b2i k), H, I.tok _, ⟨_, rfl⟩, q⟩
end

/-! ### comparisons -/
/-- the scalars that == tells apart as data does -/
def scal : V → V → Bool
  | .non, .non => true | .non, .int _ => true | .int _, .non => true | .non, .bl _ => true | .bl _, .non => true | .non, .str _ => true | .str _, .non => true
  | .int _, .int _ => true | .bl _, .bl _ => true | .str _, .str _ => true | .byt _, .byt _ => true
  | .int _, .str _ => true | .str _, .int _ => true | .bl _, .str _ => true | .str _, .bl _ => true
  | _, _ => false
def rEq : R2 := fun x y H Q => scal x y = true ∧ Q (.bl (decide (x = y))) H
def rNe : R2 := fun x y H Q => scal x y = true ∧ Q (.bl (!decide (x = y))) H

theorem dec_int {i j : Int} : decide (V.int i = V.int j) = (i == j) := by
  rw [Bool.eq_iff_iff]
  simp
theorem dec_bl {i j : Bool} : decide (V.bl i = V.bl j) = (i == j) := by
  rw [Bool.eq_iff_iff]
  simp
theorem dec_str {i j : Str} : decide (V.str i = V.str j) = (i == j) := by
  rw [Bool.eq_iff_iff]
  simp
theorem dec_byt {i j : Array UInt8} : decide (V.byt i = V.byt j) = (i.toList == j.toList) := by
  rw [Bool.eq_iff_iff]
  cases i
  cases j
  simp

section
variable {X : Cx} {a b c : Expr} {ta tb tc : TE} {pos : Pos}
theorem fin_bl {pins : List (Addr × Obj)} {σ : St} {H : Hp} {s : Shared} {Q : VK} {k k' : Bool} (I : Inv X pins σ H s) (q : Q (.bl k) H) (e : k = k') : EP X pins σ Q (.bool k') s := by
  subst e
  exact ⟨.bl k, H, I, rfl, q⟩
theorem op_eq : OpR X (compareOp .Eq) rEq := by
  intro pins s σ H x y v u Q I rx ry h
  obtain ⟨hs, q⟩ := h
  cases x with
  | non =>
    cases rx
    cases y with
    | non => cases ry; exact PySem.EqNone.eq_none_none (fin_bl I q (by simp))
    | bl j => cases ry; exact PySem.EqNone.eq_none_bool (fin_bl I q (by simp))
    | int j => obtain ⟨t', rfl⟩ := ry; exact PySem.EqNone.eq_none_int (fin_bl I q (by simp))
    | str j => obtain ⟨t', rfl⟩ := ry; exact PySem.EqNone.eq_none_str (fin_bl I q (by simp))
    | _ => exact absurd (show false = true from hs) Bool.false_ne_true
  | bl i =>
    cases rx
    cases y with
    | non => cases ry; exact PySem.EqNone.eq_bool_none (fin_bl I q (by simp))
    | bl j => cases ry; exact eq_bool (fin_bl I q dec_bl)
    | str j => obtain ⟨t', rfl⟩ := ry; exact PySem.EqMixed.eq_bool_str (fin_bl I q (by simp))
    | _ => exact absurd (show false = true from hs) Bool.false_ne_true
  | int i =>
    obtain ⟨t, rfl⟩ := rx
    cases y with
    | non => cases ry; exact PySem.EqNone.eq_int_none (fin_bl I q (by simp))
    | int j => obtain ⟨t', rfl⟩ := ry; exact eq_int (fin_bl I q dec_int)
    | str j => obtain ⟨t', rfl⟩ := ry; exact PySem.EqMixed.eq_int_str (fin_bl I q (by simp))
    | _ => exact absurd (show false = true from hs) Bool.false_ne_true
  | str i =>
    obtain ⟨t, rfl⟩ := rx
    cases y with
    | non => cases ry; exact PySem.EqNone.eq_str_none (fin_bl I q (by simp))
    | bl j => cases ry; exact PySem.EqMixed.eq_str_bool (fin_bl I q (by simp))
    | int j => obtain ⟨t', rfl⟩ := ry; exact PySem.EqMixed.eq_str_int (fin_bl I q (by simp))
    | str j => obtain ⟨t', rfl⟩ := ry; exact eq_str (fin_bl I q dec_str)
    | _ => exact absurd (show false = true from hs) Bool.false_ne_true
  | byt i =>
    obtain ⟨t, rfl⟩ := rx
    cases y with
    | byt j => obtain ⟨t', rfl⟩ := ry; exact PySem.W.eq_bytes (fin_bl I q dec_byt)
    | _ => exact absurd (show false = true from hs) Bool.false_ne_true
  | _ => cases y <;> exact absurd (show false = true from hs) Bool.false_ne_true
theorem op_ne : OpR X (compareOp .NotEq) rNe := by
  intro pins s σ H x y v u Q I rx ry h
  obtain ⟨hs, q⟩ := h
  cases x with
  | non =>
    cases rx
    cases y with
    | non => cases ry; exact PySem.EqNone.ne_none_none (fin_bl I q (by simp))
    | bl j => cases ry; exact PySem.EqNone.ne_none_bool (fin_bl I q (by simp))
    | int j => obtain ⟨t', rfl⟩ := ry; exact PySem.EqNone.ne_none_int (fin_bl I q (by simp))
    | str j => obtain ⟨t', rfl⟩ := ry; exact PySem.EqNone.ne_none_str (fin_bl I q (by simp))
    | _ => exact absurd (show false = true from hs) Bool.false_ne_true
  | bl i =>
    cases rx
    cases y with
    | non => cases ry; exact PySem.EqNone.ne_bool_none (fin_bl I q (by simp))
    | bl j => cases ry; exact ne_bool (fin_bl I q (congrArg not dec_bl))
    | str j => obtain ⟨t', rfl⟩ := ry; exact PySem.EqMixed.ne_bool_str (fin_bl I q (by simp))
    | _ => exact absurd (show false = true from hs) Bool.false_ne_true
  | int i =>
    obtain ⟨t, rfl⟩ := rx
    cases y with
    | non => cases ry; exact PySem.EqNone.ne_int_none (fin_bl I q (by simp))
    | int j => obtain ⟨t', rfl⟩ := ry; exact ne_int (fin_bl I q (congrArg not dec_int))
    | str j => obtain ⟨t', rfl⟩ := ry; exact PySem.EqMixed.ne_int_str (fin_bl I q (by simp))
    | _ => exact absurd (show false = true from hs) Bool.false_ne_true
  | str i =>
    obtain ⟨t, rfl⟩ := rx
    cases y with
    | non => cases ry; exact PySem.EqNone.ne_str_none (fin_bl I q (by simp))
    | bl j => cases ry; exact PySem.EqMixed.ne_str_bool (fin_bl I q (by simp))
    | int j => obtain ⟨t', rfl⟩ := ry; exact PySem.EqMixed.ne_str_int (fin_bl I q (by simp))
    | str j => obtain ⟨t', rfl⟩ := ry; exact ne_str (fin_bl I q (congrArg not dec_str))
    | _ => exact absurd (show false = true from hs) Bool.false_ne_true
  | byt i =>
    obtain ⟨t, rfl⟩ := rx
    cases y with
    | byt j => obtain ⟨t', rfl⟩ := ry; exact PySem.W.ne_bytes (fin_bl I q (congrArg not dec_byt))
    | _ => exact absurd (show false = true from hs) Bool.false_ne_true
  | _ => cases y <;> exact absurd (show false = true from hs) Bool.false_ne_true

theorem op_lt : OpR X (compareOp .Lt) (rI0 fun i j => .bl (decide (i < j))) := opB0 fun _ _ _ _ _ _ _ q => lt_int q
theorem op_le : OpR X (compareOp .LtE) (rI0 fun i j => .bl (decide (i ≤ j))) := opB0 fun _ _ _ _ _ _ _ q => le_int q
theorem op_gt : OpR X (compareOp .Gt) (rI0 fun i j => .bl (decide (j < i))) := opB0 fun _ _ _ _ _ _ _ q => gt_int q
theorem op_ge : OpR X (compareOp .GtE) (rI0 fun i j => .bl (decide (j ≤ i))) := opB0 fun _ _ _ _ _ _ _ q => ge_int q
theorem op_lt_str : OpR X (compareOp .Lt) (fun x y H Q => ∃ i j, x = .str i ∧ y = .str j ∧ Q (.bl (decide (i.cps.toList < j.cps.toList))) H) := by
  intro pins s σ H x y v u Q I rx ry h
  obtain ⟨i, j, rfl, rfl, q⟩ := h
  obtain ⟨t, rfl⟩ := rx
  obtain ⟨t', rfl⟩ := ry
  exact lt_str (fin_bl I q rfl)
/-- the one string within the other -/
theorem op_in_str : OpR X (compareOp .In) (fun x y H Q => ∃ i j, x = .str i ∧ y = .str j ∧ Q (.bl (!(Builtin.Str.occurrences j i 0 j.length 1).isEmpty)) H) := by
  intro pins s σ H x y v u Q I rx ry h
  obtain ⟨i, j, rfl, rfl, q⟩ := h
  obtain ⟨t, rfl⟩ := rx
  obtain ⟨t', rfl⟩ := ry
  exact in_str (fin_bl I q rfl)

/-- is None, is not None: the right side a value none -/
theorem op_isN : OpR X (compareOp .Is) (fun x y H Q => y = .non ∧ Q (.bl (decide (x = .non))) H) := by
  intro pins s σ H x y v u Q I rx ry h
  obtain ⟨rfl, q⟩ := h
  cases ry
  refine is_none_gen (fin_bl I q ?_)
  cases x <;> first
    | (cases rx; rfl)
    | (obtain ⟨t, rfl⟩ := rx; rfl)
theorem op_notN : OpR X (compareOp .IsNot) (fun x y H Q => y = .non ∧ Q (.bl (!decide (x = .non))) H) := by
  intro pins s σ H x y v u Q I rx ry h
  obtain ⟨rfl, q⟩ := h
  cases ry
  refine isnot_none_gen (fin_bl I q ?_)
  cases x <;> first
    | (cases rx; rfl)
    | (obtain ⟨t, rfl⟩ := rx; rfl)

theorem op_notin_str : OpR X (compareOp .NotIn) (fun x y H Q => ∃ i j, x = .str i ∧ y = .str j ∧ Q (.bl (!(!(Builtin.Str.occurrences j i 0 j.length 1).isEmpty))) H) := by
  intro pins s σ H x y v u Q I rx ry h
  obtain ⟨i, j, rfl, rfl, q⟩ := h
  obtain ⟨t, rfl⟩ := rx
  obtain ⟨t', rfl⟩ := ry
  exact notIn_str (fin_bl I q rfl)
/-- is, is not of two objects that are tracked lists or instances -/
def isObj : HO → Bool
  | .lst _ => true
  | .ins _ _ _ => true
  | _ => false
theorem obj_there {pins : List (Addr × Obj)} {s : Shared} {σ : St} {H : Hp} {a : Addr} {o : HO} (I : Inv X pins σ H s) (h : H a = some o) (p : isObj o = true) : ∃ ob, s.heap.get? a = some ob ∧ ob.cls ≠ .type "tuple" := by
  cases o with
  | lst xs =>
    obtain ⟨_, its, n, _, e⟩ : xs.length ≤ sizeLine ∧ ∃ (its : List Value) (n : Nat), Vals xs its ∧ s.heap.get? a = some { cls := .type "list", data := .seq its.toArray n } := I.hok a _ h
    exact ⟨_, e, (by show Value.type "list" ≠ .type "tuple"; decide +kernel)⟩
  | ins C dx fs =>
    have x := I.hok a _ h
    obtain ⟨_, _, _, e, _⟩ := x
    exact ⟨_, e, (by show Value.ref C ≠ .type "tuple"; exact fun z => by cases z)⟩
  | _ => exact absurd (show false = true from p) Bool.false_ne_true
theorem op_is_ref : OpR X (compareOp .Is) (fun x y H Q => ∃ a b oa ob, x = .ref a ∧ y = .ref b ∧ H a = some oa ∧ isObj oa = true ∧ H b = some ob ∧ isObj ob = true ∧ Q (.bl (decide (a = b))) H) := by
  intro pins s σ H x y v u Q I rx ry h
  obtain ⟨a, b, oa, ob, rfl, rfl, ha, pa, hb, pb, q⟩ := h
  cases rx
  cases ry
  obtain ⟨o1, e1, n1⟩ := obj_there I ha pa
  obtain ⟨o2, e2, _⟩ := obj_there I hb pb
  by_cases z : a = b
  · subst z
    exact wpAny_is_ref_self (fin_bl I q (by simp))
  · exact wpAny_is_ref_other z e1 e2 n1 (fin_bl I q (by simp [z]))
theorem op_isnot_ref : OpR X (compareOp .IsNot) (fun x y H Q => ∃ a b oa ob, x = .ref a ∧ y = .ref b ∧ H a = some oa ∧ isObj oa = true ∧ H b = some ob ∧ isObj ob = true ∧ Q (.bl (!decide (a = b))) H) := by
  intro pins s σ H x y v u Q I rx ry h
  obtain ⟨a, b, oa, ob, rfl, rfl, ha, pa, hb, pb, q⟩ := h
  cases rx
  cases ry
  obtain ⟨o1, e1, n1⟩ := obj_there I ha pa
  obtain ⟨o2, e2, _⟩ := obj_there I hb pb
  by_cases z : a = b
  · subst z
    exact wpAny_isNot_ref_self (fin_bl I q (by simp))
  · exact wpAny_isNot_ref_other z e1 e2 n1 (fin_bl I q (by simp [z]))

/-- two rules for one operation: by cases -/
theorem OpR.or {f : Value → Value → Sem Value} {r r' : R2} (h : OpR X f r) (h' : OpR X f r') : OpR X f (fun x y H Q => r x y H Q ∨ r' x y H Q) := by
  intro pins s σ H x y v u Q I rx ry q
  rcases q with q | q
  · exact h pins s σ H x y v u Q I rx ry q
  · exact h' pins s σ H x y v u Q I rx ry q

theorem nomark (b : Expr) {op : CmpOp} (h : op ≠ .In := by decide) (h2 : op ≠ .NotIn := by decide) : behindInMarks op b = false := by
  have e1 : (op == CmpOp.In) = false := by cases op <;> first | rfl | exact absurd rfl h
  have e2 : (op == CmpOp.NotIn) = false := by cases op <;> first | rfl | exact absurd rfl h2
  cases b <;> simp [behindInMarks, e1, e2]
/-- a comparison as a value; hm: nomark b, or (for in, not in) by with_unfolding_all rfl -/
theorem pe_cmpR {op : CmpOp} {r : R2} (ho : OpR X (compareOp op) r) (ha : PE X a ta) (hb : PE X b tb) (hm : behindInMarks op b = false) : PE X (.Compare a [op] [b] pos) (tOp r ta tb) := by
  intro pins s σ H Q I h
  exact wpAny_Compare1 (binT ha hb I h fun v u s2 x y H2 I2 rx ry q => ho pins s2 σ H2 x y v u Q I2 rx ry q) hm
/-- a reading of a value as a test -/
def tTest (t : TE) : TT := fun σ H Q => t σ H fun x H' => ∃ k, x = .bl k ∧ Q k H'
theorem pt_cmpR {op : CmpOp} {r : R2} (ho : OpR X (compareOp op) r) (ha : PE X a ta) (hb : PE X b tb) (hm : behindInMarks op b = false) : PT X (.Compare a [op] [b] pos) (tTest (tOp r ta tb)) := by
  intro pins s σ H Q I h
  refine wpAny_isTrue_Compare1 (thn (ha pins s σ H _ I h) fun v s1 ⟨x, H1, I1, r1, q1⟩ => thn (hb pins s1 σ H1 _ I1 q1) fun u s2 ⟨y, H2, I2, r2, q2⟩ =>
    thn (ho pins s2 σ H2 x y v u _ I2 r1 r2 q2) fun c s3 ⟨z, H3, I3, r3, k, e, q3⟩ => ?_) hm
  subst e
  cases r3
  exact wpAny_truthy_bool ⟨H3, I3, q3⟩
/-- a op1 b op2 c -/
def tChain (r r' : R2) (ta tb tc : TE) : TE := fun σ H Q => ta σ H fun x H1 => tb σ H1 fun y H2 => r x y H2 fun z H3 => ∃ k, z = .bl k ∧
  (if k = true then tc σ H3 fun w' H4 => r' y w' H4 Q else Q (.bl false) H3)
theorem pe_chain {op op' : CmpOp} {r r' : R2} (ho : OpR X (compareOp op) r) (ho' : OpR X (compareOp op') r') (ha : PE X a ta) (hb : PE X b tb) (hc : PE X c tc)
    (hm : lastMarks [op, op'] [b, c] = false := by with_unfolding_all rfl) : PE X (.Compare a [op, op'] [b, c] pos) (tChain r r' ta tb tc) := by
  intro pins s σ H Q I h
  refine Compare_chain (thn (ha pins s σ H _ I h) fun v s1 ⟨x, H1, I1, r1, q1⟩ => chain_link (thn (hb pins s1 σ H1 _ I1 q1) fun u s2 ⟨y, H2, I2, r2, q2⟩ =>
    thn (ho pins s2 σ H2 x y v u _ I2 r1 r2 q2) fun d s3 ⟨z, H3, I3, r3, k, e, q3⟩ => ?_)) hm
  subst e
  cases r3
  refine wpAny_truthy_bool ?_
  cases k with
  | false => exact ite_ff ⟨.bl false, H3, I3, rfl, q3⟩
  | true => exact ite_tt (chain_last (thn (hc pins s3 σ H3 _ I3 q3) fun w' s4 ⟨z', H4, I4, r4, q4⟩ => ho' pins s4 σ H4 y z' u w' Q I4 r2 r4 q4))
theorem pt_chain {op op' : CmpOp} {r r' : R2} (ho : OpR X (compareOp op) r) (ho' : OpR X (compareOp op') r') (ha : PE X a ta) (hb : PE X b tb) (hc : PE X c tc)
    (hm : lastMarks [op, op'] [b, c] = false := by with_unfolding_all rfl) : PT X (.Compare a [op, op'] [b, c] pos) (tTest (tChain r r' ta tb tc)) := by
  intro pins s σ H Q I h
  refine isTrue_chain (thn (ha pins s σ H _ I h) fun v s1 ⟨x, H1, I1, r1, q1⟩ => test_link (thn (hb pins s1 σ H1 _ I1 q1) fun u s2 ⟨y, H2, I2, r2, q2⟩ =>
    thn (ho pins s2 σ H2 x y v u _ I2 r1 r2 q2) fun d s3 ⟨z, H3, I3, r3, k, e, q3⟩ => ?_)) hm
  subst e
  cases r3
  refine wpAny_truthy_bool ?_
  cases k with
  | false =>
    obtain ⟨k', e', q'⟩ := q3
    cases e'
    exact ite_ff ⟨H3, I3, q'⟩
  | true =>
    refine ite_tt (test_last (thn (hc pins s3 σ H3 _ I3 q3) fun w' s4 ⟨z', H4, I4, r4, q4⟩ => thn (ho' pins s4 σ H4 y z' u w' _ I4 r2 r4 q4) fun d' s5 ⟨z2, H5, I5, r5, k2, e2, q5⟩ => ?_))
    subst e2
    cases r5
    exact wpAny_truthy_bool ⟨H5, I5, q5⟩

/-! ### truth -/
/-- a value's truth by the abstract heap -/
def TruV (K : PySem.W.Frag) (x : V) (H : Hp) (k : Bool) : Prop :=
  match x with
  | .non => k = false
  | .bl b => k = b
  | .int i => k = (i != 0)
  | .str y => y.length ≤ sizeLine ∧ k = ((y.length : Int) != 0)
  | .byt y => y.size ≤ sizeLine ∧ k = ((y.size : Int) != 0)
  | .ref p => (∃ xs, SqL K H p xs ∧ k = !xs.isEmpty) ∨ (∃ xs, SqT K H p xs ∧ k = !xs.isEmpty) ∨ ∃ kvs, H p = some (.dK kvs) ∧ k = !kvs.isEmpty
  | _ => False
theorem isEmpty_kv {κ : Type} {kvs : List (κ × V)} {vs : List (κ × Value)} (r : KV kvs vs) : (!vs.isEmpty) = !kvs.isEmpty := by
  cases r <;> rfl
theorem isEmpty_of {xs : List V} {its : List Value} (r : Vals xs its) : (!its.toArray.isEmpty) = !xs.isEmpty := by
  cases r <;> simp
theorem line63 : (sizeLine : Nat) < 2 ^ 63 := by rw [sizeLine_eq]; decide
theorem tru_ok : TruR X (fun x H Q => ∃ k, TruV X.K x H k ∧ Q k H) := by
  intro pins s σ H x v Q I rx h
  obtain ⟨k, e, q⟩ := h
  have hl := line63
  have hs : sizeLine = 16777216 := sizeLine_eq
  cases x with
  | non =>
    cases rx
    have e' : k = false := e
    subst e'
    exact truthy_none ⟨H, I, q⟩
  | bl b =>
    cases rx
    have e' : k = b := e
    subst e'
    exact wpAny_truthy_bool ⟨H, I, q⟩
  | int i =>
    obtain ⟨t, rfl⟩ := rx
    have e' : k = (i != 0) := e
    subst e'
    exact PySem.P.truthy_int ⟨H, I, q⟩
  | str y =>
    obtain ⟨t, rfl⟩ := rx
    obtain ⟨hy, e'⟩ : y.length ≤ sizeLine ∧ k = ((y.length : Int) != 0) := e
    subst e'
    exact PySem.P.truthy_str (by omega) ⟨H, I.tok _, q⟩
  | byt y =>
    obtain ⟨t, rfl⟩ := rx
    obtain ⟨hy, e'⟩ : y.size ≤ sizeLine ∧ k = ((y.size : Int) != 0) := e
    subst e'
    exact PySem.W.truthy_bytes (by omega) ⟨H, I.tok _, q⟩
  | ref p =>
    cases rx
    have e' : (∃ xs, SqL X.K H p xs ∧ k = !xs.isEmpty) ∨ (∃ xs, SqT X.K H p xs ∧ k = !xs.isEmpty) ∨ ∃ kvs, H p = some (.dK kvs) ∧ k = !kvs.isEmpty := e
    rcases e' with ⟨xs, hx, e'⟩ | ⟨xs, hx, e'⟩ | ⟨kvs, hx, e'⟩
    · subst e'
      obtain ⟨its, r, pl, hz⟩ := I.list hx
      have hlen := r.length
      exact wpAny_truthy_list pl.isList (by simp only [List.size_toArray]; omega) ⟨H, I.tok _, by rw [isEmpty_of r]; exact q⟩
    · subst e'
      obtain ⟨its, r, pl, hz⟩ := I.tuple hx
      have hlen := r.length
      exact truthy_tuple pl (by simp only [List.size_toArray]; omega) ⟨H, I.tok _, by rw [isEmpty_of r]; exact q⟩
    · subst e'
      obtain ⟨hz, hS, vs, r, m⟩ : kvs.length ≤ sizeLine ∧ (p == sysModules) = false ∧ ∃ vs, KV kvs vs ∧ s.heap.DictOf (mixKind X.prog X.w) p vs := I.hok p _ hx
      have hlen : kvs.length = vs.length := Paired.length r
      exact wpAny_truthy_dict hS m (by omega) ⟨H, I.tok _, by rw [isEmpty_kv r]; exact q⟩
  | _ => exact (show False from e).elim
/-- any expression whose test is its value's truth (a name, a call, a subscript, a field ..: he by fun _ => rfl) -/
theorem pt_truth (ha : PE X a ta) (he : ∀ whole, isTrue a X.env whole = (do let v ← whole; standAt a.pos; holding [v] (truthy v))) :
    PT X a (fun σ H Q => ta σ H fun x H' => ∃ k, TruV X.K x H' k ∧ Q k H') := by
  intro pins s σ H Q I h
  exact isTrue_plain (thn (ha pins s σ H _ I h) fun v s1 ⟨x, H1, I1, r1, q1⟩ => tru_ok pins s1 σ H1 x v Q I1 r1 q1) (he _)

/-! ### strs and bytes -/
theorem pe_byt {x : List UInt8} {k : Nat} : PE X (.Constant (.bytes x) k pos) (fun _ H Q => Q (.byt x.toArray) H) := fun _ _ _ H _ I h => PySem.W.Constant_bytes ⟨.byt x.toArray, H, I.tok _, ⟨_, rfl⟩, h⟩
theorem op_add_str : OpR X (binaryOp .Add) (fun x y H Q => ∃ i j, x = .str i ∧ y = .str j ∧ i.length + j.length ≤ sizeLine ∧ Q (.str (i ++ j)) H) := by
  intro pins s σ H x y v u Q I rx ry h
  obtain ⟨i, j, rfl, rfl, hz, q⟩ := h
  obtain ⟨t, rfl⟩ := rx
  obtain ⟨t', rfl⟩ := ry
  exact add_str (fun t' tk => ⟨.str (i ++ j), H, I.tok _, ⟨_, rfl⟩, q⟩) hz
theorem iop_add_str : OpR X (inplaceOp .Add) (fun x y H Q => ∃ i j, x = .str i ∧ y = .str j ∧ i.length + j.length ≤ sizeLine ∧ Q (.str (i ++ j)) H) := by
  intro pins s σ H x y v u Q I rx ry h
  obtain ⟨i, j, rfl, rfl, hz, q⟩ := h
  obtain ⟨t, rfl⟩ := rx
  obtain ⟨t', rfl⟩ := ry
  exact iadd_str (fun t' tk => ⟨.str (i ++ j), H, I.tok _, ⟨_, rfl⟩, q⟩) hz
theorem op_add_byt : OpR X (binaryOp .Add) (fun x y H Q => ∃ i j, x = .byt i ∧ y = .byt j ∧ i.size + j.size ≤ 16777216 ∧ Q (.byt (i ++ j)) H) := by
  intro pins s σ H x y v u Q I rx ry h
  obtain ⟨i, j, rfl, rfl, hz, q⟩ := h
  obtain ⟨t, rfl⟩ := rx
  obtain ⟨t', rfl⟩ := ry
  exact PySem.W.KBy.add_bytes hz (fun t' tk => ⟨.byt (i ++ j), H, I.tok _, ⟨_, rfl⟩, q⟩)

def PlainIxT (b : Expr) : Prop := ∀ o i, subscripted b false o i = operate [o, i] (getItem o i)
/-- s[i], 0 ≤ i < len -/
theorem pe_item_str (ha : PE X a ta) (hb : PE X b tb) (hs : PlainIxT b) :
    PE X (.Subscript a b pos) (tOp (fun x y H Q => ∃ z i c, x = .str z ∧ y = .int i ∧ 0 ≤ i ∧ i < 2 ^ 63 ∧ i < z.length ∧ z.cps[i.toNat]? = some c ∧ Q (.str ⟨#[c]⟩) H) ta tb) := by
  intro pins s σ H Q I h
  refine Subscript_ (binT ha hb I h fun v u s2 x y H2 I2 rx ry q => ?_)
  obtain ⟨z, i, c, rfl, rfl, h0, h63, h1, hc, q⟩ := q
  obtain ⟨t, rfl⟩ := rx
  obtain ⟨t', rfl⟩ := ry
  have e : seqIndex? i z.length = some i.toNat := PySem.StrLaws.seqIndex_nonneg h0 h1
  exact tail_any (typeIs_str s2 z t) slot_str_getitem.lookup (getItem_str (c := c) (by
    have e1 : decide (i < -(2 ^ 63 : Int)) = false := decide_eq_false (by omega)
    have e2 : decide (i ≥ 2 ^ 63) = false := decide_eq_false (by omega)
    rw [e1, e2] <;> rfl) (by rw [e]; exact hc) ⟨.str ⟨#[c]⟩, H2, I2.tok _, ⟨_, rfl⟩, q⟩) (hs _ _)
/-- b[i], 0 ≤ i < len -/
theorem pe_item_byt (ha : PE X a ta) (hb : PE X b tb) (hs : PlainIxT b) :
    PE X (.Subscript a b pos) (tOp (fun x y H Q => ∃ (z : List UInt8) (i : Int), x = .byt z.toArray ∧ y = .int i ∧ z.length ≤ sizeLine ∧ 0 ≤ i ∧ i < z.length ∧ Q (.int ((z.getD i.toNat 0).toNat : Nat)) H) ta tb) := by
  intro pins s σ H Q I h
  refine Subscript_ (binT ha hb I h fun v u s2 x y H2 I2 rx ry q => ?_)
  obtain ⟨z, i, rfl, rfl, hz, h0, h1, q⟩ := q
  obtain ⟨t, rfl⟩ := rx
  obtain ⟨t', rfl⟩ := ry
  have hl : sizeLine = 16777216 := sizeLine_eq
  exact tail_any (PySem.W.typeIs_bytes s2 z.toArray t) PySem.W.FB.slot_bytes_getitem.lookup (PySem.W.getItem_bytes (by omega) h0 h1 ⟨.int ((z.getD i.toNat 0).toNat : Nat), H2, I2.tok _, ⟨_, rfl⟩, q⟩) (hs _ _)

/-! ### scalar builtins, by CallR -/
theorem vals1 {x : V} {us : List Value} (r : Vals [x] us) : ∃ u, us = [u] ∧ RelV x u := by
  cases r with
  | cons r1 r2 => cases r2; exact ⟨_, rfl, r1⟩
theorem vals2 {x y : V} {us : List Value} (r : Vals [x, y] us) : ∃ u w', us = [u, w'] ∧ RelV x u ∧ RelV y w' := by
  cases r with
  | cons r1 r2 =>
    cases r2 with
    | cons r3 r4 => cases r4; exact ⟨_, _, rfl, r1, r3⟩
theorem call_abs : CallR X (.builtin "abs") (fun xs H Q => ∃ i, xs = [.int i] ∧ Q (.int (if i < 0 then -i else i)) H) := by
  intro pins s σ H xs us Q I r h
  obtain ⟨i, rfl, q⟩ := h
  obtain ⟨u, rfl, t, rfl⟩ := vals1 r
  exact call_abs_int fun u tk => ⟨.int (if i < 0 then -i else i), H, I.tok _, ⟨_, rfl⟩, q⟩
theorem call_max2 (hc : X.calm = true) : CallR X (.builtin "max") (fun xs H Q => ∃ i j, xs = [.int i, .int j] ∧ Q (.int (if j > i then j else i)) H) := by
  intro pins s σ H xs us Q I r h
  obtain ⟨i, j, rfl, q⟩ := h
  obtain ⟨u, w', rfl, ⟨t, rfl⟩, ⟨t', rfl⟩⟩ := vals2 r
  refine max_two_ints (I.ok.hd hc) fun h' tk k => ⟨_, H, I.kept k, ?_, q⟩
  by_cases hj : j > i
  · rw [if_pos hj, if_pos hj]; exact ⟨_, rfl⟩
  · rw [if_neg hj, if_neg hj]; exact ⟨_, rfl⟩
theorem call_min2 (hc : X.calm = true) : CallR X (.builtin "min") (fun xs H Q => ∃ i j, xs = [.int i, .int j] ∧ Q (.int (if j < i then j else i)) H) := by
  intro pins s σ H xs us Q I r h
  obtain ⟨i, j, rfl, q⟩ := h
  obtain ⟨u, w', rfl, ⟨t, rfl⟩, ⟨t', rfl⟩⟩ := vals2 r
  refine min_two_ints (I.ok.hd hc) fun h' tk k => ⟨_, H, I.kept k, ?_, q⟩
  by_cases hj : j < i
  · rw [if_pos hj, if_pos hj]; exact ⟨_, rfl⟩
  · rw [if_neg hj, if_neg hj]; exact ⟨_, rfl⟩
theorem call_int1 : CallR X (.type "int") (fun xs H Q => (∃ i, xs = [.int i] ∧ Q (.int i) H) ∨ ∃ k, xs = [.bl k] ∧ Q (.int (if k then 1 else 0)) H) := by
  intro pins s σ H xs us Q I r h
  rcases h with ⟨i, rfl, q⟩ | ⟨k, rfl, q⟩
  · obtain ⟨u, rfl, t, rfl⟩ := vals1 r
    exact call_int_int ⟨.int i, H, I, ⟨_, rfl⟩, q⟩
  · obtain ⟨u, rfl, r1⟩ := vals1 r
    cases r1
    exact call_int_bool ⟨.int (if k then 1 else 0), H, I.tok _, ⟨_, rfl⟩, q⟩
theorem call_bool1 : CallR X (.type "bool") (fun xs H Q => (∃ i, xs = [.int i] ∧ Q (.bl (i != 0)) H) ∨ ∃ k, xs = [.bl k] ∧ Q (.bl k) H) := by
  intro pins s σ H xs us Q I r h
  rcases h with ⟨i, rfl, q⟩ | ⟨k, rfl, q⟩
  · obtain ⟨u, rfl, t, rfl⟩ := vals1 r
    exact call_bool_int ⟨.bl (i != 0), H, I, rfl, q⟩
  · obtain ⟨u, rfl, r1⟩ := vals1 r
    cases r1
    exact call_bool_bool ⟨.bl k, H, I, rfl, q⟩
theorem call_str_int : CallR X (.type "str") (fun xs H Q => ∃ i, xs = [.int i] ∧ i.natAbs.log2 < 1920 ∧ Q (.str (toString i)) H) := by
  intro pins s σ H xs us Q I r h
  obtain ⟨i, rfl, hz, q⟩ := h
  obtain ⟨u, rfl, t, rfl⟩ := vals1 r
  exact PySem.P.str_of_int hz ⟨.str _, H, I.tok _, ⟨_, rfl⟩, q⟩
theorem call_ord : CallR X (.builtin "ord") (fun xs H Q => ∃ x, xs = [.str x] ∧ x.length = 1 ∧ Q (.int (x.cps.getD 0 0 : Nat)) H) := by
  intro pins s σ H xs us Q I r h
  obtain ⟨x, rfl, hz, q⟩ := h
  obtain ⟨u, rfl, t, rfl⟩ := vals1 r
  exact ord_of_one hz ⟨.int _, H, I.tok _, ⟨_, rfl⟩, q⟩
theorem call_chr : CallR X (.builtin "chr") (fun xs H Q => ∃ i, xs = [.int i] ∧ 0 ≤ i ∧ i ≤ 1114111 ∧ Q (.str ⟨#[i.toNat]⟩) H) := by
  intro pins s σ H xs us Q I r h
  obtain ⟨i, rfl, h0, h1, q⟩ := h
  obtain ⟨u, rfl, t, rfl⟩ := vals1 r
  exact chr_of_range h0 h1 ⟨.str _, H, I.tok _, ⟨_, rfl⟩, q⟩
/-- len of a str, a bytes, a list, a tuple -/
def LenV (K : PySem.W.Frag) (x : V) (H : Hp) (n : Nat) : Prop :=
  match x with
  | .str y => y.length ≤ sizeLine ∧ n = y.length
  | .byt y => y.size ≤ sizeLine ∧ n = y.size
  | .ref p => (∃ xs, SqL K H p xs ∧ n = xs.length) ∨ ∃ xs, SqT K H p xs ∧ n = xs.length
  | _ => False
theorem call_len : CallR X (.builtin "len") (fun xs H Q => ∃ x n, xs = [x] ∧ LenV X.K x H n ∧ Q (.int n) H) := by
  intro pins s σ H xs us Q I r h
  obtain ⟨x, n, rfl, e, q⟩ := h
  obtain ⟨u, rfl, rx⟩ := vals1 r
  have hl := line63
  have hs : sizeLine = 16777216 := sizeLine_eq
  cases x with
  | str y =>
    obtain ⟨t, rfl⟩ := rx
    obtain ⟨hy, e'⟩ : y.length ≤ sizeLine ∧ n = y.length := e
    subst e'
    exact len_str (by omega) ⟨.int _, H, I.tok _, ⟨_, rfl⟩, q⟩
  | byt y =>
    obtain ⟨t, rfl⟩ := rx
    obtain ⟨hy, e'⟩ : y.size ≤ sizeLine ∧ n = y.size := e
    subst e'
    exact PySem.W.len_bytes (by omega) ⟨.int _, H, I.tok _, ⟨_, rfl⟩, q⟩
  | ref p =>
    cases rx
    have e' : (∃ xs, SqL X.K H p xs ∧ n = xs.length) ∨ ∃ xs, SqT X.K H p xs ∧ n = xs.length := e
    rcases e' with ⟨xs, hx, e'⟩ | ⟨xs, hx, e'⟩
    · subst e'
      obtain ⟨its, r', pl, hz⟩ := I.list hx
      have hlen := r'.length
      exact Calls.call_len_list pl.isList (by simp only [List.size_toArray]; omega) ⟨.int xs.length, H, I.tok _, ⟨_, by simp only [List.size_toArray]; rw [hlen]⟩, q⟩
    · subst e'
      obtain ⟨its, r', pl, hz⟩ := I.tuple hx
      have hlen := r'.length
      exact len_tuple pl (by simp only [List.size_toArray]; omega) ⟨.int xs.length, H, I.tok _, ⟨_, by simp only [List.size_toArray]; rw [hlen]⟩, q⟩
  | _ => exact (show False from e).elim
/-- divmod: a new tuple -/
theorem call_divmod : CallR X (.builtin "divmod") (fun xs H Q => ∃ i j, xs = [.int i, .int j] ∧ CDiv i j ∧ ∀ p, H p = none → Q (.ref p) (upd H p (.tup [.int (i / j), .int (i % j)]))) := by
  intro pins s σ H xs us Q I r h
  obtain ⟨i, j, rfl, ⟨h1, h2⟩, q⟩ := h
  obtain ⟨u, w', rfl, ⟨t, rfl⟩, ⟨t', rfl⟩⟩ := vals2 r
  refine divmod_int (by omega) ?_ (.inl (PyProof.noPylong_small (by omega)))
  rw [Int.fdiv_eq_ediv_of_nonneg i (by omega), Int.fmod_eq_emod_of_nonneg i (by omega)]
  have hn : H s.heap.objs.size = none := I.hok.fresh (Nat.le_refl _)
  refine ⟨.ref s.heap.objs.size, _, ?_, rfl, q _ hn⟩
  refine I.laid (fun b o e => Heap.get?_push_of_some _ e) (Nat.le_refl _) ⟨by simp only [List.length_cons, List.length_nil]; rw [sizeLine_eq]; decide, [.int (i / j) s.toks, .int (i % j) (s.toks + 1)], .cons ⟨_, rfl⟩ (.cons ⟨_, rfl⟩ .nil), ?_⟩
  exact ⟨_, Heap.get?_push_size s.heap rfl, rfl, 0, rfl⟩
end
end L2

namespace L2
open PySem PySem.Spec PyProof.Rows

/-! ### an instance, its attributes a map -/
structure ObjM (h : Heap) (x dx C : Addr) (mA : Str → Option Value) : Prop where
  obj : h.get? x = some (PySem.W.instObj C dx)
  ns : h.Ns1 dx mA
  ne : dx ≠ x

theorem lookIn_ns {h : Heap} {dx : Addr} {mA : Str → Option Value} (n : h.Ns1 dx mA) : ∃ od, h.get? dx = some od ∧ ∀ name, PySem.W.lookIn name od = some (mA name) := by
  obtain ⟨o, es, ep, ho, hd, hk, _, hm⟩ := n
  refine ⟨o, ho, fun name => ?_⟩
  have e := hm name
  unfold nsFind findBy at e
  rw [← Array.find?_toList] at e
  unfold PySem.W.lookIn
  rw [hd]
  dsimp only
  split
  · rename_i y q
    rw [q] at e
    exact congrArg some e
  · rename_i q
    rw [q] at e
    have a : es.toList.any (·.refKey) = false := by
      rw [List.any_eq_false]
      intro y hy
      obtain ⟨z, t, hkey⟩ := hk y (Array.mem_toList_iff.mp hy)
      simp [DictEntry.refKey, hkey]
    have a' : ¬ es.toList.any (·.refKey) = true := by rw [a]; exact Bool.false_ne_true
    rw [if_neg a']
    exact congrArg some e

theorem ObjM.look {h : Heap} {x dx C : Addr} {mA : Str → Option Value} (I : ObjM h x dx C mA) : ∃ od, PySem.W.InstAt h x (PySem.W.instObj C dx) C (some od) ∧ ∀ name, PySem.W.lookIn name od = some (mA name) :=
  let ⟨od, ho, hl⟩ := lookIn_ns I.ns
  ⟨od, ⟨I.obj, rfl, rfl, ho⟩, hl⟩

section
variable {prog : Program} {w : World} {A : Around} {E : Value → Shared → Prop} {s : Shared} {K : PySem.W.Frag} {x dx C f : Addr} {mA : Str → Option Value} {name : Str} {v : Value}

theorem get_map {expr : Bool} {Q : Value → Shared → Prop} (X : K.In s.heap) (I : ObjM s.heap x dx C mA) (hg : PySem.W.plainGet K C name = true) (hh : PySem.W.hasDictIn K C = true)
    (ha : PySem.W.findIn K (.ref C) name = some none) (hv : mA name = some v) (hv' : PySem.W.handedIn v = true) (h : Q v { s with toks := s.toks + 1 }) :
    wpAny (model prog w) A (getAttr (.ref x) name expr) Q E s := by
  obtain ⟨od, J, hl⟩ := I.look
  exact PySem.W.get_value X J (PySem.W.plainGet_of hg).1 (PySem.W.findObj_own hh ha rfl (by rw [hl, hv])) hv' h

theorem get_const {expr : Bool} {a : Value} {Q : Value → Shared → Prop} (X : K.In s.heap) (I : ObjM s.heap x dx C mA) (hg : PySem.W.plainGet K C name = true) (hh : PySem.W.hasDictIn K C = true)
    (ha : PySem.W.findIn K (.ref C) name = some (some a)) (hn : PySem.W.specialIn K a "__get__" = some none) (hc : PySem.W.copiedNames.contains name = false) (hv : mA name = none) (hv' : PySem.W.handedIn a = true)
    (h : Q a { s with toks := s.toks + 1 }) : wpAny (model prog w) A (getAttr (.ref x) name expr) Q E s := by
  obtain ⟨od, J, hl⟩ := I.look
  exact PySem.W.get_value X J (PySem.W.plainGet_of hg).1 (PySem.W.findObj_cls hh ha hn hv' hc (by rw [hl, hv])) hv' h

theorem get_meth {pl : Sem Bool} {Q : Value × List Value → Shared → Prop} (X : K.In s.heap) (I : ObjM s.heap x dx C mA) (hg : PySem.W.plainGet K C name = true)
    (hf : PySem.W.findIn K (.ref C) name = some (some (.ref f))) (ht : PySem.W.isFn K (.ref f) = true) (hv : mA name = none) (h : Q (.ref f, [.ref x]) s) :
    wpAny (model prog w) A (getMethod (.ref x) name pl) Q E s := by
  obtain ⟨od, J, hl⟩ := I.look
  exact PySem.W.method_fn X J (PySem.W.plainGet_of hg).1 (PySem.W.plainGet_of hg).2 hf (beq_iff_eq.mp ht) (by show (PySem.W.lookIn name od).map (·.isSome) = some false; rw [hl, hv]; rfl) h

theorem set_map {ns : List Str} {Q : Unit → Shared → Prop} (X : K.In s.heap) (I : ObjM s.heap x dx C mA)
    (hs : PySem.W.findIn K (.ref C) "__setattr__" = some (some (.builtin "object.__setattr__"))) (hp : PySem.W.plainOver K C = true) (ht : PySem.W.takerIn K C name = some none) (hh : PySem.W.hasDictIn K C = true)
    (hw : PySem.Within mA ns) (hsz : ns.length ≤ sizeLine)
    (h : ∀ h', ObjM h' x dx C (fun y => if y = name then some v else mA y) → Heap.SameBut dx s.heap h' → Q () { s with heap := h', toks := s.toks + 2 }) :
    wpAny (model prog w) A (setAttr (.ref x) name v) Q E s := by
  obtain ⟨od, J, hl⟩ := I.look
  refine PySem.W.set_plain X J hs (PySem.W.osa_open (s := { s with toks := s.toks + 1 }) (r := none) X J hp ht fun b => ?_)
  obtain ⟨cd, hc, hd'⟩ := PySem.W.any_some hh
  have hx : s.heap.get? x = some ⟨.ref C, some dx, .plain, #[]⟩ := I.obj
  refine wpAny_bind (wpAny_pure (wpAny_bind (wpAny_bind (wpAny_loadPart hx (wpAny_bind (PySem.W.Looks.here (s := { s with toks := s.toks + 1 }) (PySem.W.looks_clsIn X hc) ?_))))))
  rw [hd']
  refine wpAny_pure (a := some dx) (wpAny_bind (wpAny_pure (wpAny_bind ?_)))
  refine wpAny_nsSet1 (s := { s with toks := s.toks + 1 }) I.ns fun h' hn2 hs2 => ?_
  obtain ⟨oD, esD, epD, hoD, hdD, hcD⟩ := hn2.count (PySem.Within.cons name v hw)
  refine wpAny_bind (wpAny_lookBehind hoD (by rw [hdD]; exact pastItsLine_dict (Nat.le_trans hcD (by rw [List.length_cons]; omega))) ?_)
  exact wpAny_pure (h _ ⟨(hs2.2 _ (Ne.symm I.ne)).trans I.obj, hn2, I.ne⟩ hs2)

/-- C(..): the dict at the heap's end, the instance behind it; then its __init__ -/
theorem make_map {R : Result → Shared → Prop} {vs : List Value} {kw : List (Str × Value)} (X : K.In s.heap) (hm : PySem.W.makesIn K C = true)
    (hi : PySem.W.findIn K (.ref C) "__init__" = some (some (.ref f))) (hf : PySem.W.typeIn K (.ref f) = some (.type "function"))
    (h : codeAny (model prog w) (A.under (.builtin "type.__call__" ⟨.ref C :: vs, kw⟩)) (.call (.ref f) ⟨.ref (s.heap.objs.size + 1) :: vs, kw⟩) (PySem.W.InitBack (s.heap.objs.size + 1) R)
      { s with heap := (s.heap.push PySem.W.emptyDict).push (PySem.W.instObj C s.heap.objs.size) }) :
    codeAny (model prog w) A (.call (.ref C) ⟨vs, kw⟩) R s := by
  obtain ⟨hh, g, d, t, os⟩ := s
  exact PySem.W.make_core (PySem.W.makes_of X hm) (PySem.W.looks_findIn X hi) (fun self => PySem.W.bind_fn X self hf) (.inl rfl) h
/-- C() where there is no __init__ but object's -/
theorem make_map0 {R : Result → Shared → Prop} (X : K.In s.heap) (hm : PySem.W.makesIn K C = true)
    (hi : PySem.W.findIn K (.ref C) "__init__" = some (some (.builtin "object.__init__")))
    (hb : ∀ self, PySem.W.Looks (model prog w) s.heap (bindSpecial (.builtin "object.__init__") self) (.builtin "object.__init__", [self]))
    (h : codeAny (model prog w) (A.under (.builtin "type.__call__" ⟨[.ref C], []⟩)) (.call (.builtin "object.__init__") ⟨[.ref (s.heap.objs.size + 1)], []⟩) (PySem.W.InitBack (s.heap.objs.size + 1) R)
      { s with heap := (s.heap.push PySem.W.emptyDict).push (PySem.W.instObj C s.heap.objs.size) }) :
    codeAny (model prog w) A (.call (.ref C) ⟨[], []⟩) R s := by
  obtain ⟨hh, g, d, t, os⟩ := s
  exact PySem.W.make_core (PySem.W.makes_of X hm) (PySem.W.looks_findIn X hi) hb (.inr ⟨rfl, rfl⟩) h
end

/-! ### the attributes as a list of pairs -/
def putF (f : Str) (v : V) : List (Str × V) → List (Str × V)
  | [] => [(f, v)]
  | (g, x) :: r => if g = f then (g, v) :: r else (g, x) :: putF f v r
theorem lookup_putF (f g : Str) (v : V) : ∀ fs : List (Str × V), (putF f v fs).lookup g = if g = f then some v else fs.lookup g
  | [] => by
    show List.lookup g [(f, v)] = _
    by_cases h : g = f
    · have hb : (g == f) = true := beq_iff_eq.mpr h
      simp only [List.lookup, hb, if_pos h]
    · have hb : (g == f) = false := beq_eq_false_iff_ne.mpr h
      simp only [List.lookup, hb, if_neg h]
  | (k, x) :: r => by
    have ih := lookup_putF f g v r
    rw [show putF f v ((k, x) :: r) = (if k = f then (k, v) :: r else (k, x) :: putF f v r) from rfl]
    by_cases hk : k = f
    · rw [if_pos hk]
      by_cases h : g = k
      · have hb : (g == k) = true := beq_iff_eq.mpr h
        simp only [List.lookup, hb, if_pos (h.trans hk)]
      · have hb : (g == k) = false := beq_eq_false_iff_ne.mpr h
        simp only [List.lookup, hb, if_neg (fun e : g = f => h (e.trans hk.symm))]
    · rw [if_neg hk]
      by_cases h : g = k
      · have hb : (g == k) = true := beq_iff_eq.mpr h
        simp only [List.lookup, hb, if_neg (fun e : g = f => hk (h.symm.trans e))]
      · have hb : (g == k) = false := beq_eq_false_iff_ne.mpr h
        simp only [List.lookup, hb]
        exact ih
theorem keys_putF (f : Str) (v : V) : ∀ fs : List (Str × V), f ∈ (putF f v fs).map (·.1) ∧ ∀ g, g ∈ fs.map (·.1) → g ∈ (putF f v fs).map (·.1)
  | [] => ⟨by simp [putF], fun g h => by simp at h⟩
  | (k, x) :: r => by
    obtain ⟨i1, i2⟩ := keys_putF f v r
    rw [show putF f v ((k, x) :: r) = (if k = f then (k, v) :: r else (k, x) :: putF f v r) from rfl]
    by_cases hk : k = f
    · rw [if_pos hk]
      subst hk
      exact ⟨by simp, fun g h => by simpa using h⟩
    · rw [if_neg hk]
      refine ⟨?_, fun g h => ?_⟩
      · rw [List.map_cons]
        exact List.mem_cons_of_mem _ i1
      · rw [List.map_cons] at h ⊢
        rcases List.mem_cons.mp h with e | e
        · exact List.mem_cons.mpr (.inl e)
        · exact List.mem_cons_of_mem _ (i2 g e)
theorem length_putF (f : Str) (v : V) : ∀ fs : List (Str × V), (putF f v fs).length ≤ fs.length + 1
  | [] => by simp [putF]
  | (k, x) :: r => by
    have ih := length_putF f v r
    rw [show putF f v ((k, x) :: r) = (if k = f then (k, v) :: r else (k, x) :: putF f v r) from rfl]
    by_cases hk : k = f
    · rw [if_pos hk, List.length_cons, List.length_cons]; omega
    · rw [if_neg hk, List.length_cons, List.length_cons]; omega

theorem RelO.some_of {v : V} {o : Option Value} (r : RelO (some v) o) : ∃ u, o = some u ∧ RelV v u := by
  cases o with
  | none => exact (show False from r).elim
  | some u => exact ⟨u, rfl, r⟩
theorem RelO.none_of {o : Option Value} (r : RelO none o) : o = none := by
  cases o with
  | none => rfl
  | some u => exact (show False from r).elim
theorem handed_of {v : V} {u : Value} (r : RelV v u) : PySem.W.handedIn u = true := by
  cases v with
  | non => cases (show u = Value.none from r); rfl
  | bl b => cases (show u = Value.bool b from r); rfl
  | int i => obtain ⟨t, e⟩ := (show ∃ t, u = Value.int i t from r); cases e; rfl
  | str x => obtain ⟨t, e⟩ := (show ∃ t, u = Value.str x t from r); cases e; rfl
  | byt b => obtain ⟨t, e⟩ := (show ∃ t, u = Value.bytes b t from r); cases e; rfl
  | flt b => obtain ⟨t, e⟩ := (show ∃ t, u = Value.float b t from r); cases e; rfl
  | ref a => cases (show u = Value.ref a from r); rfl
  | ty n => cases (show u = Value.type n from r); rfl

section
variable {P : Program} {w : World} {H H' : Hp} {h h' : Heap} {a C dx : Addr} {fs fs' : List (Str × V)}
theorem ins_get (hok : HOk P w H h) (e : H a = some (.ins C dx fs)) : ∃ mA, ObjM h a dx C mA ∧ (∀ f, RelO (fs.lookup f) (mA f)) ∧ PySem.Within mA (fs.map (·.1)) ∧ fs.length ≤ 1000 ∧ H dx = some (.own a) := by
  obtain ⟨d, z, ne, ob, mA, n, r, q⟩ := (show ObjOk P w H h a (.ins C dx fs) from hok a _ e)
  exact ⟨mA, ⟨ob, n, ne⟩, r, q, z, d⟩
end

/-! ### what of the text a class must have -/
structure Cls (K : PySem.W.Frag) (C : Addr) : Prop where
  pg : PySem.W.plainGet K C Str.empty = true
  hd : PySem.W.hasDictIn K C = true
  po : PySem.W.plainOver K C = true
  sa : PySem.W.findIn K (.ref C) "__setattr__" = some (some (.builtin "object.__setattr__"))
theorem Cls.get {K : PySem.W.Frag} {C : Addr} (c : Cls K C) (f : Str) : PySem.W.plainGet K C f = true := c.pg
/-- no class of it has the name -/
def NoAttr (K : PySem.W.Frag) (C : Addr) (f : Str) : Prop := PySem.W.findIn K (.ref C) f = some none
theorem NoAttr.taker {K : PySem.W.Frag} {C : Addr} {f : Str} (n : NoAttr K C f) : PySem.W.takerIn K C f = some none := by
  unfold PySem.W.takerIn
  rw [show PySem.W.findIn K (.ref C) f = some none from n]
  rfl
/-- a constant of the class -/
structure Con (K : PySem.W.Frag) (C : Addr) (f : Str) (v : V) (u : Value) : Prop where
  at_ : PySem.W.findIn K (.ref C) f = some (some u)
  rel : RelV v u
  get : PySem.W.specialIn K u "__get__" = some none
  cp : PySem.W.copiedNames.contains f = false
/-- a method: a plain def of the class or of one above it -/
structure Meth (K : PySem.W.Frag) (C : Addr) (m : Str) (f : Addr) : Prop where
  at_ : PySem.W.findIn K (.ref C) m = some (some (.ref f))
  fn : PySem.W.isFn K (.ref f) = true
  kp : PySem.W.keepIn K (.ref f) = true

section
variable {X : Cx} {pins : List (Addr × Obj)} {σ : St} {H : Hp} {s : Shared} {a C dx : Addr} {fs : List (Str × V)} {f : Str} {v : V} {A : Around} {E : Value → Shared → Prop}

theorem getattr_ok {b : Bool} {Q : Value → Shared → Prop} (I : Inv X pins σ H s) (e : H a = some (.ins C dx fs)) (c : Cls X.K C) (n : NoAttr X.K C f) (l : fs.lookup f = some v)
    (h : ∀ u s', Inv X pins σ H s' → RelV v u → Q u s') : wpAny (model X.prog X.w) A (getAttr (.ref a) f b) Q E s := by
  obtain ⟨mA, O, r, _, _, _⟩ := ins_get I.hok e
  obtain ⟨u, hu, ru⟩ := RelO.some_of (v := v) (o := mA f) (by rw [← l]; exact r f)
  exact get_map I.kIn O (c.get f) c.hd n hu (handed_of ru) (h u _ (I.tok _) ru)

theorem getcon_ok {b : Bool} {u : Value} {Q : Value → Shared → Prop} (I : Inv X pins σ H s) (e : H a = some (.ins C dx fs)) (c : Cls X.K C) (k : Con X.K C f v u) (l : fs.lookup f = none)
    (h : ∀ s', Inv X pins σ H s' → Q u s') : wpAny (model X.prog X.w) A (getAttr (.ref a) f b) Q E s := by
  obtain ⟨mA, O, r, _, _, _⟩ := ins_get I.hok e
  have hn : mA f = none := RelO.none_of (by rw [← l]; exact r f)
  exact get_const I.kIn O (c.get f) c.hd k.at_ k.get k.cp hn (handed_of k.rel) (h _ (I.tok _))

theorem getmeth_ok {m : Str} {g : Addr} {pl : Sem Bool} {Q : Value × List Value → Shared → Prop} (I : Inv X pins σ H s) (e : H a = some (.ins C dx fs)) (c : Cls X.K C) (k : Meth X.K C m g) (l : fs.lookup m = none)
    (h : Q (.ref g, [.ref a]) s) : wpAny (model X.prog X.w) A (getMethod (.ref a) m pl) Q E s := by
  obtain ⟨mA, O, r, _, _, _⟩ := ins_get I.hok e
  have hn : mA m = none := RelO.none_of (by rw [← l]; exact r m)
  exact get_meth I.kIn O (c.get m) k.at_ k.fn hn h

theorem setattr_ok {y : V} {u : Value} {Q : Unit → Shared → Prop} (I : Inv X pins σ H s) (e : H a = some (.ins C dx fs)) (c : Cls X.K C) (n : NoAttr X.K C f) (hl : fs.length < 1000) (ry : RelV y u)
    (h : ∀ s', Inv X pins σ (upd H a (.ins C dx (putF f y fs))) s' → Q () s') : wpAny (model X.prog X.w) A (setAttr (.ref a) f u) Q E s := by
  obtain ⟨mA, O, r, wi, _, ho⟩ := ins_get I.hok e
  have hz : (fs.map (·.1)).length ≤ sizeLine := by rw [List.length_map, sizeLine_eq]; omega
  refine set_map I.kIn O c.sa c.po n.taker c.hd wi hz fun h' O' sb => h _ ?_
  have hd : ∃ o, h'.get? dx = some o := let ⟨o, _, _, e', _⟩ := O'.ns; ⟨o, e'⟩
  refine I.write (x := a) (e := dx) (by rw [e]; exact True.intro) (.inr ho) (fun b q hb z => (sb.2 b hb).trans z) hd ?_
  refine ⟨by rw [upd_ne O.ne]; exact ho, ?_, O.ne, O'.obj, _, O'.ns, fun g => ?_, fun g hg => ?_⟩
  · have := length_putF f y fs; omega
  · show RelO ((putF f y fs).lookup g) (if g = f then some u else mA g)
    rw [lookup_putF]
    by_cases q : g = f
    · rw [if_pos q, if_pos q]; exact ry
    · rw [if_neg q, if_neg q]; exact r g
  · by_cases q : g = f
    · rw [q]; exact (keys_putF f y fs).1
    · refine (keys_putF f y fs).2 g (wi g fun z => hg ?_)
      show (if g = f then some u else mA g) = none
      rw [if_neg q]; exact z

/-- a new instance, tracked, without attributes -/
theorem Inv.made (I : Inv X pins σ H s) : Inv X pins σ (upd (upd H s.heap.objs.size (.own (s.heap.objs.size + 1))) (s.heap.objs.size + 1) (.ins C s.heap.objs.size []))
    { s with heap := (s.heap.push PySem.W.emptyDict).push (PySem.W.instObj C s.heap.objs.size) } := by
  have e1 : (s.heap.push PySem.W.emptyDict).get? s.heap.objs.size = some PySem.W.emptyDict := Heap.get?_push_size s.heap rfl
  have e2 : ((s.heap.push PySem.W.emptyDict).push (PySem.W.instObj C s.heap.objs.size)).get? (s.heap.objs.size + 1) = some (PySem.W.instObj C s.heap.objs.size) := by
    have := Heap.get?_push_size (s.heap.push PySem.W.emptyDict) (o := PySem.W.instObj C s.heap.objs.size) rfl
    rwa [Heap.size_push] at this
  have e3 : (s.heap.push PySem.W.emptyDict).Ns s.heap.objs.size (fun _ => none) := ⟨PySem.W.emptyDict, #[], _, e1, rfl, (fun e he => absurd he (by simp)), fun _ => rfl⟩
  have I1 := I.laid (a := s.heap.objs.size) (o := .own (s.heap.objs.size + 1)) (h' := s.heap.push PySem.W.emptyDict) (t' := s.toks) (fun b u q => Heap.get?_push_of_some _ q) (Nat.le_refl _) ⟨_, e1⟩
  refine I1.laid (a := s.heap.objs.size + 1) (o := .ins C s.heap.objs.size []) (t' := s.toks) (fun b u q => Heap.get?_push_of_some _ q) (Nat.le_of_eq (Heap.size_push _ _)) ?_
  have ne : s.heap.objs.size ≠ s.heap.objs.size + 1 := Nat.ne_of_lt (Nat.lt_succ_self _)
  refine ⟨by rw [upd_ne ne, upd_same], Nat.zero_le _, ne, e2, fun _ => none, (Heap.Ns1.of_empty e3).at fun o q => Heap.get?_push_of_some _ q, fun _ => True.intro, fun y hy => absurd rfl hy⟩

/-- e.f where nothing but the object is asked: through attributeBase (super) and the last hold -/
theorem attr_of {prog : Program} {w : World} {env : Env} {e : Expr} {f : Str} {pos : Pos} {s : Shared} {Q : Value → Shared → Prop} (hb : attributeBase e f env (eval e env) = eval e env)
    (h : wpAny (model prog w) A (eval e env) (fun o s₁ => wpAny (model prog w) A (getAttr o f true) Q E s₁) E s) : wpAny (model prog w) A (eval (.Attribute e f pos) env) Q E s :=
  Attribute_any_ h (by rw [arm_eval_Attribute, hb])
end

/-! ### readings and rules -/
/-- e.f, an attribute of the instance -/
def tFld (K : PySem.W.Frag) (ta : TE) (f : Str) : TE := fun σ H Q => ta σ H fun x H1 => ∃ a C dx fs v, x = .ref a ∧ H1 a = some (.ins C dx fs) ∧ Cls K C ∧ NoAttr K C f ∧ fs.lookup f = some v ∧ Q v H1
/-- e.f, a constant of the class -/
def tCon (K : PySem.W.Frag) (ta : TE) (f : Str) : TE := fun σ H Q => ta σ H fun x H1 => ∃ a C dx fs v u, x = .ref a ∧ H1 a = some (.ins C dx fs) ∧ Cls K C ∧ Con K C f v u ∧ fs.lookup f = none ∧ Q v H1
/-- e.f = value -/
def sFld (K : PySem.W.Frag) (ta tv : TE) (f : Str) : TS := fun D σ H => tv σ H fun y H1 => ta σ H1 fun x H2 => ∃ a C dx fs, x = .ref a ∧ H2 a = some (.ins C dx fs) ∧ Cls K C ∧ NoAttr K C f ∧ fs.length < 1000 ∧
  D.nx σ (upd H2 a (.ins C dx (putF f y fs)))
/-- an augmented operator on two values -/
def InOp (X : Cx) (op : Operator) (rd : V → V → Hp → VK → Prop) : Prop :=
  ∀ (pins : List (Addr × Obj)) (s : Shared) (σ : St) (H : Hp) (x y : V) (u v : Value) (Q : VK), Inv X pins σ H s → RelV x u → RelV y v → rd x y H Q → wpAny (model X.prog X.w) X.A (inplaceOp op u v) (EP X pins σ Q) X.xe s
/-- e.f op= value -/
def sFldAug (K : PySem.W.Frag) (ta tv : TE) (rd : V → V → Hp → VK → Prop) (f : Str) : TS := fun D σ H => ta σ H fun x H1 => ∃ a C dx fs v, x = .ref a ∧ H1 a = some (.ins C dx fs) ∧ Cls K C ∧ NoAttr K C f ∧ fs.lookup f = some v ∧
  tv σ H1 fun y H2 => rd v y H2 fun z H3 => ∃ dx' fs', H3 a = some (.ins C dx' fs') ∧ fs'.length < 1000 ∧ D.nx σ (upd H3 a (.ins C dx' (putF f z fs')))

section
variable {X : Cx} {o e value : Expr} {f : Str} {pos pos' tpos : Pos} {ta tv : TE}
theorem pe_fld (he : PE X e ta) (hb : attributeBase e f X.env (eval e X.env) = eval e X.env) : PE X (.Attribute e f pos) (tFld X.K ta f) := by
  intro pins s σ H Q I h
  refine attr_of hb (thn (he pins s σ H _ I h) fun u s1 ⟨x, H1, I1, rx, a, C, dx, fs, v, ex, ea, c, n, l, q⟩ => ?_)
  subst ex
  obtain rfl : u = Value.ref a := rx
  exact getattr_ok I1 ea c n l fun u' s2 I2 ru => ⟨v, H1, I2, ru, q⟩
theorem pe_con (he : PE X e ta) (hb : attributeBase e f X.env (eval e X.env) = eval e X.env) : PE X (.Attribute e f pos) (tCon X.K ta f) := by
  intro pins s σ H Q I h
  refine attr_of hb (thn (he pins s σ H _ I h) fun u s1 ⟨x, H1, I1, rx, a, C, dx, fs, v, u0, ex, ea, c, k, l, q⟩ => ?_)
  subst ex
  obtain rfl : u = Value.ref a := rx
  exact getcon_ok I1 ea c k l fun s2 I2 => ⟨v, H1, I2, k.rel, q⟩
theorem ps_fld (ha : PE X o ta) (hv : PE X value tv) (hs : swapsWith value (some (.Attribute o f pos')) pos.line X.env = pure false) : PS X (.Assign [.Attribute o f pos'] value pos) (sFld X.K ta tv f) := by
  intro pins s σ H D I h
  refine plainObj_wpAny_Assign_Attribute (thn (hv pins s σ H _ I h) fun u s1 ⟨y, H1, I1, ry, q⟩ => thn (ha pins s1 σ H1 _ I1 q) fun ov s2 ⟨x, H2, I2, rx, a, C, dx, fs, ex, ea, c, n, l, q2⟩ => ?_) hs
  subst ex
  obtain rfl : ov = Value.ref a := rx
  exact setattr_ok I2 ea c n l ry fun s3 I3 => ⟨σ, _, I3, q2⟩
theorem ps_fldaug {op : Operator} {rd : V → V → Hp → VK → Prop} (ha : PE X o ta) (hv : PE X value tv) (hop : InOp X op rd) : PS X (.AugAssign (.Attribute o f tpos) op value pos) (sFldAug X.K ta tv rd f) := by
  intro pins s σ H D I h
  refine wpAny_AugAssign_AttributeAny (thn (ha pins s σ H _ I h) fun ov s1 ⟨x, H1, I1, rx, a, C, dx, fs, v, ex, ea, c, n, l, q⟩ => ?_)
  subst ex
  obtain rfl : ov = Value.ref a := rx
  refine getattr_ok I1 ea c n l fun u s2 I2 ru => thn (hv pins s2 σ H1 _ I2 q) fun w3 s3 ⟨y, H2, I3, ry, q3⟩ => thn (hop pins s3 σ H2 v y u w3 _ I3 ru ry q3) fun w4 s4 ⟨z, H3, I4, rz, dx', fs', ea', l', q4⟩ => ?_
  exact setattr_ok I4 ea' c n l' rz fun s5 I5 => ⟨σ, _, I5, q4⟩
def rAdd : V → V → Hp → VK → Prop := fun x y H Q => ∃ i j, x = .int i ∧ y = .int j ∧ Q (.int (i + j)) H
def rSub : V → V → Hp → VK → Prop := fun x y H Q => ∃ i j, x = .int i ∧ y = .int j ∧ Q (.int (i - j)) H
theorem in_add : InOp X .Add rAdd := by
  rintro pins s σ H x y u v Q I rx ry ⟨i, j, rfl, rfl, q⟩
  obtain ⟨t, rfl⟩ := (show ∃ t, u = Value.int i t from rx)
  obtain ⟨t', rfl⟩ := (show ∃ t', v = Value.int j t' from ry)
  exact PyProof.Rows.iadd_int ⟨.int (i + j), H, I.tok _, ⟨_, rfl⟩, q⟩
theorem in_sub : InOp X .Sub rSub := by
  rintro pins s σ H x y u v Q I rx ry ⟨i, j, rfl, rfl, q⟩
  obtain ⟨t, rfl⟩ := (show ∃ t, u = Value.int i t from rx)
  obtain ⟨t', rfl⟩ := (show ∃ t', v = Value.int j t' from ry)
  exact PyProof.Rows.isub_int ⟨.int (i - j), H, I.tok _, ⟨_, rfl⟩, q⟩

/-- what is between an instance and its method: the tree of a method call -/
theorem methcall_of {pl : Sem Bool} {m : Str} {apos : Pos} {args : List Expr} {pins : List (Addr × Obj)} {s : Shared} {σ : St} {H : Hp} {Q : Value → Shared → Prop} {te : TE} (he : PE X e te) (I : Inv X pins σ H s)
    (h : te σ H fun x H1 => ∃ a C dx fs g, x = .ref a ∧ H1 a = some (.ins C dx fs) ∧ Cls X.K C ∧ Meth X.K C m g ∧ fs.lookup m = none ∧
      ∀ s1, Inv X pins σ H1 s1 → wpAny (model X.prog X.w) X.A (callWith pos (.ref g) [.ref a] (backTo pos (starEach args X.env)) (backToKw pos (keywordEach [] X.env))) Q X.xe s1)
    (ht : eval (.Call (.Attribute e m apos) args [] pos) X.env = (do
      let ov ← eval e X.env
      standAt apos.atName
      let (f, first) ← holding [ov] (getMethod ov m pl)
      callWith pos f first (backTo pos (starEach args X.env)) (backToKw pos (keywordEach [] X.env)))) :
    wpAny (model X.prog X.w) X.A (eval (.Call (.Attribute e m apos) args [] pos) X.env) Q X.xe s := by
  refine PySem.W.methodCall_KW (pl := pl) (thn (he pins s σ H _ I h) fun u s1 ⟨x, H1, I1, rx, a, C, dx, fs, g, ex, ea, c, k, l, q⟩ => ?_) ht
  subst ex
  obtain rfl : u = Value.ref a := rx
  exact getmeth_ok I1 ea c k l (q s1 I1)
end

/-! ### isinstance -/
section
variable {X : Cx} {pins : List (Addr × Obj)} {σ : St} {H : Hp} {s : Shared} {A : Around} {E : Value → Shared → Prop} {Q : Value → Shared → Prop} {c : Value} {b : Bool}
/-- the type of a value, as the fragment's deciders take it; for an instance its class -/
inductive TyOf (K : PySem.W.Frag) (H : Hp) : V → Value → Prop where
  | non : TyOf K H .non (.type "NoneType")
  | bl (x : Bool) : TyOf K H (.bl x) (.type "bool")
  | int (i : Int) : TyOf K H (.int i) (.type "int")
  | str (x : Str) : TyOf K H (.str x) (.type "str")
  | flt (x : UInt64) : TyOf K H (.flt x) (.type "float")
  | lst {a : Addr} {xs : List V} (e : H a = some (.lst xs)) : TyOf K H (.ref a) (.type "list")
  | frz {a : Addr} {o : Obj} {xs : List V} (e : H a = some (.frz o (.lst xs))) : TyOf K H (.ref a) (.type "list")
  | tup {a : Addr} {xs : List V} (e : H a = some (.tup xs)) : TyOf K H (.ref a) (.type "tuple")
  | dK {a : Addr} {kvs : List (Key × V)} (e : H a = some (.dK kvs)) : TyOf K H (.ref a) (.type "dict")
  | dT {a : Addr} {kvs : List (List Key × V)} (e : H a = some (.dT kvs)) : TyOf K H (.ref a) (.type "dict")
  | ins {a C dx : Addr} {fs : List (Str × V)} (e : H a = some (.ins C dx fs)) (cl : Cls K C) (ha : PySem.W.findIn K (.ref C) "__class__" = some (some (.builtin "object.__class__")))
      (hn : PySem.W.specialIn K (.builtin "object.__class__") "__get__" = some (some (.builtin "getset_descriptor.__get__"))) (htk : PySem.W.takesIn K (.builtin "object.__class__") = some true)
      (hm : PySem.W.mroIn K C (.type "object") = some true) : TyOf K H (.ref a) (.ref C)
/-- isinstance(x, c) for one class c, a built-in or an own one: kitOne's answer -/
theorem isinst_ok {x : V} {u t : Value} (I : Inv X pins σ H s) (rx : RelV x u) (ty : TyOf X.K H x t) (e : PySem.W.kitOne X.K t c = some b) (h : ∀ tk, Q (.bool b) { s with toks := tk }) :
    wpAny (model X.prog X.w) A (call (.builtin "isinstance") [u, c]) Q E s := by
  cases ty with
  | non => cases (show u = Value.none from rx); exact PySem.W.kia_one PySem.W.kitx_none I.kIn True.intro e (fun z => nomatch z) h
  | bl y => cases (show u = Value.bool y from rx); exact PySem.W.kia_one PySem.W.kitx_bool I.kIn True.intro e (fun z => nomatch z) h
  | int i => obtain ⟨t, q⟩ := (show ∃ t, u = Value.int i t from rx); cases q; exact PySem.W.kia_one PySem.W.kitx_int I.kIn True.intro e (fun z => nomatch z) h
  | str y => obtain ⟨t, q⟩ := (show ∃ t, u = Value.str y t from rx); cases q; exact PySem.W.kia_one PySem.W.kitx_str I.kIn True.intro e (fun z => nomatch z) h
  | flt y => obtain ⟨t, q⟩ := (show ∃ t, u = Value.float y t from rx); cases q; exact PySem.W.kia_one PySem.W.kitx_float I.kIn True.intro e (fun z => nomatch z) h
  | @lst a xs ea =>
    cases (show u = Value.ref a from rx)
    obtain ⟨_, _, n, _, h1⟩ := (show ObjOk X.prog X.w H s.heap a (.lst xs) from I.hok a _ ea)
    exact PySem.W.kia_one PySem.W.kitx_list I.kIn ⟨_, h1, rfl⟩ e (fun z => nomatch z) h
  | @frz a ob xs ea =>
    cases (show u = Value.ref a from rx)
    obtain ⟨_, _, _, n, _, h1⟩ := (show ObjOk X.prog X.w H s.heap a (.frz ob (.lst xs)) from I.hok a _ ea)
    exact PySem.W.kia_one PySem.W.kitx_list I.kIn ⟨_, h1, rfl⟩ e (fun z => nomatch z) h
  | @tup a xs ea =>
    cases (show u = Value.ref a from rx)
    obtain ⟨_, _, _, p⟩ := (show ObjOk X.prog X.w H s.heap a (.tup xs) from I.hok a _ ea)
    obtain ⟨o, h1, h2, _⟩ := p
    exact PySem.W.kia_one PySem.W.kitx_tuple I.kIn ⟨o, h1, h2⟩ e (fun z => nomatch z) h
  | @dK a kvs ea =>
    cases (show u = Value.ref a from rx)
    obtain ⟨_, _, vs, _, p⟩ := (show ObjOk X.prog X.w H s.heap a (.dK kvs) from I.hok a _ ea)
    obtain ⟨o, es, ep, h1, h2, _⟩ := p
    exact PySem.W.kia_one PySem.W.kitx_dict I.kIn ⟨o, h1, h2.1⟩ e (fun z => nomatch z) h
  | @dT a kvs ea =>
    cases (show u = Value.ref a from rx)
    obtain ⟨_, _, xs, _, o, es, ep, h1, h2, _⟩ := (show ObjOk X.prog X.w H s.heap a (.dT kvs) from I.hok a _ ea)
    exact PySem.W.kia_one PySem.W.kitx_dict I.kIn ⟨o, h1, h2.1⟩ e (fun z => nomatch z) h
  | @ins a C dx fs ea cl ha hn htk hm =>
    cases (show u = Value.ref a from rx)
    obtain ⟨mA, O, _⟩ := ins_get I.hok ea
    obtain ⟨od, J, _⟩ := O.look
    exact PySem.W.kia_one (PySem.W.kitx_own (cl.get _) cl.hd ha hn htk hm) I.kIn J e (fun z => nomatch z) h
end
end L2

namespace L2
open PySem PySem.Spec PyProof.Rows

/-! ### room -/
structure Room (k : Nat) (A : Around) : Prop where
  hd : A.handled = none
  dp : A.depth + 3 * k + 5 < recursionLimit
  un : A.units + 16 * k + 200 < cLine
theorem Room.mono {j k : Nat} {A : Around} (r : Room k A) (h : j ≤ k) : Room j A := ⟨r.hd, by have := r.dp; omega, by have := r.un; omega⟩
theorem Room.deeper {k : Nat} {A : Around} (r : Room (k + 1) A) (env : Env) : Room k (A.deeper env) :=
  ⟨r.hd, by have := r.dp; show A.depth + 1 + 3 * k + 5 < _; omega, by have := r.un; show A.units + 3 + 16 * k + 200 < _; omega⟩
theorem Room.in1 {k : Nat} {A : Around} (r : Room (k + 1) A) : Room k A.in1 :=
  ⟨r.hd, by have := r.dp; show A.depth + 3 * k + 5 < _; omega, by have := r.un; show A.units + 1 + 16 * k + 200 < _; omega⟩
theorem make_depth {A : Around} {C : Addr} {us : List Value} {kw : List (Str × Value)} : (A.under (.builtin "type.__call__" ⟨.ref C :: us, kw⟩)).depth = A.depth + 1 := by
  first | rfl | simp [Around.under, Code.weight, Code.isCreation, Code.isGuard, Code.isCaller, Code.frames, Code.isFrame, guardIds]
theorem make_units {A : Around} {C : Addr} {us : List Value} {kw : List (Str × Value)} : (A.under (.builtin "type.__call__" ⟨.ref C :: us, kw⟩)).units = A.units + 1 := by
  first | rfl | simp [Around.under, Code.cUnits, Code.frames, Code.isFrame]
theorem Room.make {k : Nat} {A : Around} (r : Room (k + 1) A) (C : Addr) (us : List Value) (kw : List (Str × Value)) : Room k (A.under (.builtin "type.__call__" ⟨.ref C :: us, kw⟩)) :=
  ⟨r.hd, by have := r.dp; rw [make_depth]; omega, by have := r.un; rw [make_units]; omega⟩
theorem Room.depth {k : Nat} {A : Around} (r : Room k A) : A.depth < recursionLimit := by have := r.dp; omega
theorem Room.units {k : Nat} {A : Around} (r : Room k A) : A.units + 64 < cLine := by have := r.un; omega
theorem Room.units0 {k : Nat} {A : Around} (r : Room k A) : A.units < cLine := by have := r.un; omega

/-! ### argument lists and displays -/
def tNil : TA := fun _ H Q => Q [] H
def tCons (ta : TE) (tr : TA) : TA := fun σ H Q => ta σ H fun x H1 => tr σ H1 fun xs H2 => Q (x :: xs) H2
section
variable {X : Cx} {e : Expr} {es : List Expr} {te : TE} {t : TA} {pos : Pos}
theorem pa_nil : PA X [] tNil := fun _ _ _ _ H Q I h => Calls.spliced_nil ⟨[], H, I, .nil, h⟩
theorem pa_cons (ha : PE X e te) (hr : PA X es t) (hs : starEach (e :: es) X.env = (false, eval e X.env) :: starEach es X.env := by rfl) : PA X (e :: es) (tCons te t) := by
  intro pos pins s σ H Q I h
  rw [hs]
  show wpAny _ _ (spliced ((false, eval e X.env) :: backTo pos (starEach es X.env))) _ _ s
  refine Calls.spliced_cons (thn (ha pins s σ H _ I h) fun u s1 ⟨x, H1, I1, r1, q1⟩ => ?_)
  exact thn (hr pos pins s1 σ H1 _ I1 q1) fun us s2 ⟨xs, H2, I2, r2, q2⟩ => ⟨x :: xs, H2, I2, .cons r1 r2, q2⟩

/-- a tuple, a list of written items -/
def tTup (t : TA) : TE := fun σ H Q => t σ H fun xs H1 => xs.length ≤ sizeLine ∧ ∀ p, H1 p = none → Q (.ref p) (upd H1 p (.tup xs))
def tLst (t : TA) : TE := fun σ H Q => t σ H fun xs H1 => xs.length ≤ sizeLine ∧ ∀ p, H1 p = none → Q (.ref p) (upd H1 p (.lst xs))
theorem pe_tup {x1} (h : PA X es t) : PE X (.Tuple es x1 pos) (tTup t) := by
  intro pins s σ H Q I hq
  refine wpAny_Tuple_spliced (thn (h pos pins s σ H _ I hq) fun us s1 ⟨xs, H1, I1, r, z, q⟩ => ⟨by rw [← r.length]; exact z, ?_⟩)
  have hf : H1 s1.heap.objs.size = none := I1.hok.fresh (Nat.le_refl _)
  refine ⟨.ref s1.heap.objs.size, upd H1 s1.heap.objs.size (.tup xs), I1.laid (t' := s1.toks) (fun b u e => Heap.get?_push_of_some _ e) (Nat.le_refl _) ?_, rfl, q _ hf⟩
  exact ⟨z, us, r, ⟨_, Heap.get?_push_size _ rfl, rfl, _, rfl⟩⟩
theorem pe_lst (h : PA X es t) : PE X (.List es pos) (tLst t) := by
  intro pins s σ H Q I hq
  refine wpAny_List_spliced (thn (h pos pins s σ H _ I hq) fun us s1 ⟨xs, H1, I1, r, z, q⟩ => ⟨by rw [← r.length]; exact z, ?_⟩)
  have hf : H1 s1.heap.objs.size = none := I1.hok.fresh (Nat.le_refl _)
  refine ⟨.ref s1.heap.objs.size, upd H1 s1.heap.objs.size (.lst xs), I1.laid (t' := s1.toks) (fun b u e => Heap.get?_push_of_some _ e) (Nat.le_refl _) ?_, rfl, q _ hf⟩
  exact ⟨z, us, 0, r, Heap.get?_push_size _ rfl⟩
end

/-! ### what a def promises -/
/-- a def's promise: the bound arguments in the parameters' order, the heap, the wanted end, the wanted exception -/
abbrev Sp := List V → Hp → VK → XK → Prop
/-- how an exception lies behind a call (file 08 gives it): the callers' frames, abstract heap and state ahead of the call, the wish, the exception, the state -/
abbrev CXT := List Env → Hp → Shared → XK → Value → Shared → Prop

/-- the state at a call -/
structure Env0 (P : Program) (w : World) (K : PySem.W.Frag) (mg : Str → Option Value) (base : Heap) (A : Around) (outer : List Env) (s : Shared) (H : Hp) : Prop where
  frames : A.frames = some outer
  mod : Mod K mg base
  bs : ∀ b o, base.get? b = some o → s.heap.get? b = some o ∧ H b = none
  bsz : base.objs.size ≤ s.heap.objs.size
  funs : s.heap.FunFrames base outer
  frf : ∀ b ∈ frs outer, H b = none
  hok : HOk P w H s.heap
  bare : AllBare s.gens
/-- a call's end -/
def CE (outer : List Env) (P : Program) (w : World) (H : Hp) (s : Shared) (Q : VK) (u : Value) (s' : Shared) : Prop :=
  ∃ v H', s'.os = s.os ∧ AllBare s'.gens ∧ Un (frs outer) [] H H' s.heap s'.heap ∧ HOk P w H' s'.heap ∧ RelV v u ∧ Q v H'
def CR (CX : CXT) (outer : List Env) (P : Program) (w : World) (H : Hp) (s : Shared) (Q : VK) (E : XK) (r : Result) (s' : Shared) : Prop :=
  match r with
  | .ok (.ret u) => CE outer P w H s Q u s'
  | .ok _ => False
  | .error e => CX outer H s E e s'
structure FnOk (P : Program) (w : World) (K : PySem.W.Frag) (mg : Str → Option Value) (base : Heap) (CX : CXT) (k : Nat) (f : Addr) (fd : FuncData) (ps : List Str) (sp : Sp) : Prop where
  len : ∀ vs H Q E, sp vs H Q E → vs.length = ps.length
  run : ∀ (A : Around) (outer : List Env) (s : Shared) (H : Hp) (args : Args) (us : List Value) (vs : List V) (Q : VK) (E : XK), Room k A → Env0 P w K mg base A outer s H → BindsTo s fd args (ps.zip us) → Vals vs us → sp vs H Q E →
    codeAny (model P w) A (.call (.ref f) args) (CR CX outer P w H s Q E) s
theorem FnOk.mono {P : Program} {w : World} {K : PySem.W.Frag} {mg : Str → Option Value} {base : Heap} {CX : CXT} {j k : Nat} {f : Addr} {fd : FuncData} {ps : List Str} {sp : Sp} (F : FnOk P w K mg base CX j f fd ps sp) (h : j ≤ k) :
    FnOk P w K mg base CX k f fd ps sp := ⟨F.len, fun A outer s H args us vs Q E hr => F.run A outer s H args us vs Q E (hr.mono h)⟩
/-- a weaker promise -/
theorem FnOk.imp {P : Program} {w : World} {K : PySem.W.Frag} {mg : Str → Option Value} {base : Heap} {CX : CXT} {k : Nat} {f : Addr} {fd : FuncData} {ps : List Str} {sp sp' : Sp} (F : FnOk P w K mg base CX k f fd ps sp)
    (h : ∀ vs H Q E, sp' vs H Q E → sp vs H Q E) : FnOk P w K mg base CX k f fd ps sp' :=
  ⟨fun vs H Q E q => F.len vs H Q E (h _ _ _ _ q), fun A outer s H args us vs Q E hr he hb hv hs => F.run A outer s H args us vs Q E hr he hb hv (h _ _ _ _ hs)⟩

theorem Env0.make {P : Program} {w : World} {K : PySem.W.Frag} {mg : Str → Option Value} {base : Heap} {A : Around} {outer : List Env} {s : Shared} {H : Hp} (e : Env0 P w K mg base A outer s H) (C : Addr) (us : List Value) (kw : List (Str × Value)) :
    Env0 P w K mg base (A.under (.builtin "type.__call__" ⟨.ref C :: us, kw⟩)) outer s H := ⟨by first | exact e.frames | (simpa [Around.under, Code.envs, Code.isFrame, pushEnvs] using e.frames), e.mod, e.bs, e.bsz, e.funs, e.frf, e.hok, e.bare⟩
theorem Env0.in1 {P : Program} {w : World} {K : PySem.W.Frag} {mg : Str → Option Value} {base : Heap} {A : Around} {outer : List Env} {s : Shared} {H : Hp} (e : Env0 P w K mg base A outer s H) :
    Env0 P w K mg base A.in1 outer s H := ⟨e.frames, e.mod, e.bs, e.bsz, e.funs, e.frf, e.hok, e.bare⟩

section
variable {X : Cx} {pins : List (Addr × Obj)} {σ : St} {H : Hp} {s s' : Shared}
/-- from a body: what a callee wants -/
theorem Inv.env0 (I : Inv X pins σ H s) : Env0 X.prog X.w X.K X.mg X.base X.A X.stack s H :=
  ⟨I.ok.frames, I.ok.mod, I.bs, Nat.le_trans I.ok.bsz I.sz, I.stack, I.stkFree, I.hok, I.bare⟩
/-- behind a call -/
theorem Inv.after {Q : VK} {u : Value} (I : Inv X pins σ H s) (h : CE X.stack X.prog X.w H s Q u s') : EP X pins σ Q u s' := by
  obtain ⟨v, H', os, bare, un, hok, r, q⟩ := h
  obtain ⟨hh, g, d, t, os'⟩ := s'
  obtain rfl : os' = s.os := os
  exact ⟨v, H', I.call (h' := hh) (g' := g) (d' := d) (t' := t) (ch := []) un hok bare (fun b z => absurd z (by simp)), r, q⟩
end

/-! ### calls -/
/-- f(..): the written arguments, then the defaults dvs; E: what is wanted of an exception -/
def tCall (sp : Sp) (dvs : List V) (E : XK) (t : TA) : TE := fun σ H Q => t σ H fun vs H1 => sp (vs ++ dvs) H1 Q E
/-- o.m(..) of an instance of the class at C -/
def tMeth (C : Addr) (m : Str) (sp : Sp) (dvs : List V) (E : XK) (ta : TE) (t : TA) : TE := fun σ H Q => ta σ H fun x H1 => ∃ a dx fs, x = .ref a ∧ H1 a = some (.ins C dx fs) ∧ fs.lookup m = none ∧
  t σ H1 fun vs H2 => sp (x :: (vs ++ dvs)) H2 Q E
/-- C(..): a new instance and its dict, then __init__ -/
def tMake (C : Addr) (sp : Sp) (dvs : List V) (E : XK) (t : TA) : TE := fun σ H Q => t σ H fun vs H1 => ∀ x dx, H1 x = none → H1 dx = none → dx ≠ x →
  sp (.ref x :: (vs ++ dvs)) (upd (upd H1 dx (.own x)) x (.ins C dx [])) (fun v H2 => v = .non ∧ Q (.ref x) H2) E

/-- how the parameters are bound: us the positional arguments, kw the keywords' values by name, ds the defaults that fill up -/
def Binds (K : PySem.W.Frag) (fd : FuncData) (ps : List Str) (ds : List Value) : Prop :=
  ∀ (s : Shared) (us : List Value), K.In s.heap → (us ++ ds).length = ps.length → BindsTo s fd ⟨us, []⟩ (ps.zip (us ++ ds))
/-- every parameter is given -/
theorem Binds.all {K : PySem.W.Frag} {fd : FuncData} {ps : List Str} (h : ∀ us : List Value, us.length = ps.length → bindArgs fd ⟨us, []⟩ = pure (ps.zip us)) : Binds K fd ps [] := fun s us _ hl => by
  rw [List.append_nil] at hl ⊢
  exact .of_eq (h us hl)

/-- an exception of a callee reaches what this body wants of exceptions -/
def Passes (CX : CXT) (X : Cx) (E : XK) : Prop := ∀ (pins : List (Addr × Obj)) (σ : St) (H : Hp) (s : Shared) (e : Value) (s' : Shared), Inv X pins σ H s → CX X.stack H s E e s' → X.xe e s'

section
variable {X : Cx} {CX : CXT} {k : Nat} {f C : Addr} {fd : FuncData} {ps : List Str} {sp : Sp} {dvs : List V} {ds : List Value} {E : XK} {x m : Str} {p pos apos : Pos} {e o : Expr} {es : List Expr} {ta : TE} {t : TA}

/-- the callee runs -/
theorem run_fn {pins : List (Addr × Obj)} {σ : St} {H : Hp} {s : Shared} {Q : VK} {us : List Value} {vs : List V} (F : FnOk X.prog X.w X.K X.mg X.base CX k f fd ps sp) (hr : Room k X.A) (hb : Binds X.K fd ps ds) (hd : Vals dvs ds) (hx : Passes CX X E)
    (I : Inv X pins σ H s) (r : Vals vs us) (h : sp (vs ++ dvs) H Q E) : wpAny (model X.prog X.w) X.A (call (.ref f) us) (EP X pins σ Q) X.xe s := by
  have r2 : Vals (vs ++ dvs) (us ++ ds) := r.append hd
  have hl : (us ++ ds).length = ps.length := by rw [← r2.length]; exact F.len _ _ _ _ h
  refine wpAny_call (codeAny_mono (F.run X.A X.stack s H ⟨us, []⟩ (us ++ ds) (vs ++ dvs) Q E hr I.env0 (hb s us I.kIn hl) r2 h) fun r s' hq => ?_)
  cases r with
  | error e => exact hx pins σ H s e s' I hq
  | ok fl =>
    cases fl with
    | ret u => exact I.after hq
    | next => exact False.elim hq
    | brk => exact False.elim hq
    | cont => exact False.elim hq

theorem pe_call (F : FnOk X.prog X.w X.K X.mg X.base CX k f fd ps sp) (hr : Room k X.A) (hg : Gl X x) (hm : X.mg x = some (.ref f)) (hk : PySem.W.keepIn X.K (.ref f) = true) (hb : Binds X.K fd ps ds) (hd : Vals dvs ds) (hx : Passes CX X E)
    (ha : PA X (e :: es) t) (hdb : (x == ("__debug__" : Str)) = false := by decide) (he : starEach (e :: es) X.env = (false, eval e X.env) :: starEach es X.env := by rfl) (hpl : (backTo pos (starEach es X.env)).any (·.1) = false := by rfl) :
    PE X (.Call (.Name x p) (e :: es) [] pos) (tCall sp dvs E t) := by
  intro pins s σ H Q I h
  refine wpAny_Call_Name_kw (ld_glob I hg hm ?_ hdb)
  refine PySem.W.callWith_K (h₀ := X.base) I.ok.mod.kin hk (thn (ha pos pins s σ H _ I h) fun us s1 ⟨vs, H1, I1, r, q⟩ => ⟨I1.kIn, ?_⟩) he hpl
  exact run_fn F hr hb hd hx I1 r q
theorem pe_call0 (F : FnOk X.prog X.w X.K X.mg X.base CX k f fd ps sp) (hr : Room k X.A) (hg : Gl X x) (hm : X.mg x = some (.ref f)) (hk : PySem.W.keepIn X.K (.ref f) = true) (hb : Binds X.K fd ps ds) (hd : Vals dvs ds) (hx : Passes CX X E)
    (hdb : (x == ("__debug__" : Str)) = false := by decide) : PE X (.Call (.Name x p) [] [] pos) (tCall sp dvs E tNil) := by
  intro pins s σ H Q I h
  refine wpAny_Call_Name_kw (ld_glob I hg hm ?_ hdb)
  exact PySem.W.callWith_K0 I.kIn hk (run_fn (us := []) F hr hb hd hx I .nil h)

/-- o.m(e, ..) -/
theorem pe_meth {pl : Sem Bool} (he : PE X o ta) (c : Cls X.K C) (hm : Meth X.K C m f) (F : FnOk X.prog X.w X.K X.mg X.base CX k f fd ps sp) (hr : Room k X.A) (hb : Binds X.K fd ps ds) (hd : Vals dvs ds) (hx : Passes CX X E) (ha : PA X (e :: es) t)
    (hst : starEach (e :: es) X.env = (false, eval e X.env) :: starEach es X.env := by rfl) (hpl : (backTo pos (starEach es X.env)).any (·.1) = false := by rfl)
    (ht : eval (.Call (.Attribute o m apos) (e :: es) [] pos) X.env = (do
      let ov ← eval o X.env
      standAt apos.atName
      let (f, first) ← holding [ov] (getMethod ov m pl)
      callWith pos f first (backTo pos (starEach (e :: es) X.env)) (backToKw pos (keywordEach [] X.env))) := by rfl) :
    PE X (.Call (.Attribute o m apos) (e :: es) [] pos) (tMeth C m sp dvs E ta t) := by
  intro pins s σ H Q I h
  refine PySem.W.methodCall_KW (pl := pl) (thn (he pins s σ H _ I h) fun u s1 ⟨x, H1, I1, rx, a, dx, fs, ex, ea, l, q⟩ => ?_) ht
  subst ex
  obtain rfl : u = Value.ref a := rx
  refine getmeth_ok I1 ea c hm l ?_
  refine PySem.W.callWith_K (first := [.ref a]) (h₀ := X.base) I.ok.mod.kin hm.kp (thn (ha pos pins s1 σ H1 _ I1 q) fun us s2 ⟨vs, H2, I2, r, q2⟩ => ⟨I2.kIn, ?_⟩) hst hpl
  exact run_fn (us := .ref a :: us) (vs := .ref a :: vs) F hr hb hd hx I2 (.cons rfl r) q2
/-- o.m() -/
theorem pe_meth0 {pl : Sem Bool} (he : PE X o ta) (c : Cls X.K C) (hm : Meth X.K C m f) (F : FnOk X.prog X.w X.K X.mg X.base CX k f fd ps sp) (hr : Room k X.A) (hb : Binds X.K fd ps ds) (hd : Vals dvs ds) (hx : Passes CX X E)
    (ht : eval (.Call (.Attribute o m apos) [] [] pos) X.env = (do
      let ov ← eval o X.env
      standAt apos.atName
      let (f, first) ← holding [ov] (getMethod ov m pl)
      callWith pos f first (backTo pos (starEach [] X.env)) (backToKw pos (keywordEach [] X.env))) := by rfl) :
    PE X (.Call (.Attribute o m apos) [] [] pos) (tMeth C m sp dvs E ta tNil) := by
  intro pins s σ H Q I h
  refine PySem.W.methodCall_KW (pl := pl) (thn (he pins s σ H _ I h) fun u s1 ⟨x, H1, I1, rx, a, dx, fs, ex, ea, l, q⟩ => ?_) ht
  subst ex
  obtain rfl : u = Value.ref a := rx
  refine getmeth_ok I1 ea c hm l ?_
  exact PySem.W.callWith_K0 (first := [.ref a]) I1.kIn hm.kp (run_fn (us := [.ref a]) (vs := [.ref a]) F hr hb hd hx I1 (.cons rfl .nil) q)

/-- what a class must have to be made -/
structure Mk (K : PySem.W.Frag) (C f : Addr) : Prop where
  makes : PySem.W.makesIn K C = true
  init : PySem.W.findIn K (.ref C) "__init__" = some (some (.ref f))
  fn : PySem.W.isFn K (.ref f) = true
  kp : PySem.W.keepIn K (.ref C) = true

theorem run_make {pins : List (Addr × Obj)} {σ : St} {H : Hp} {s : Shared} {Q : VK} {us : List Value} {vs : List V} (M : Mk X.K C f) (F : FnOk X.prog X.w X.K X.mg X.base CX k f fd ps sp) (hr : Room (k + 1) X.A) (hb : Binds X.K fd ps ds) (hd : Vals dvs ds)
    (hx : Passes CX X E) (I : Inv X pins σ H s) (r : Vals vs us)
    (h : ∀ x dx, H x = none → H dx = none → dx ≠ x → sp (.ref x :: (vs ++ dvs)) (upd (upd H dx (.own x)) x (.ins C dx [])) (fun v H2 => v = .non ∧ Q (.ref x) H2) E) :
    wpAny (model X.prog X.w) X.A (call (.ref C) us) (EP X pins σ Q) X.xe s := by
  have hq := h (s.heap.objs.size + 1) s.heap.objs.size (I.hok.fresh (Nat.le_succ _)) (I.hok.fresh (Nat.le_refl _)) (Nat.ne_of_lt (Nat.lt_succ_self _))
  have I2 := Inv.made (C := C) I
  have r2 : Vals (V.ref (s.heap.objs.size + 1) :: (vs ++ dvs)) (Value.ref (s.heap.objs.size + 1) :: (us ++ ds)) := .cons rfl (r.append hd)
  have hl : (Value.ref (s.heap.objs.size + 1) :: us ++ ds).length = ps.length := by
    have e := r2.length
    rw [F.len _ _ _ _ hq] at e
    exact e.symm
  refine wpAny_call (make_map (f := f) I.kIn M.makes M.init (beq_iff_eq.mp M.fn) (codeAny_mono (F.run _ X.stack _ _ ⟨Value.ref (s.heap.objs.size + 1) :: us, []⟩ (Value.ref (s.heap.objs.size + 1) :: (us ++ ds)) _ _ E (hr.make C us [])
    (I2.env0.make C us []) (hb _ (Value.ref (s.heap.objs.size + 1) :: us) I2.kIn hl) r2 hq) fun r s' hq' => ?_))
  cases r with
  | error e => exact hx pins σ _ _ e s' I2 hq'
  | ok fl =>
    cases fl with
    | ret u =>
      obtain ⟨v, H', I3, rv, ev, q3⟩ := I2.after hq'
      subst ev
      exact ⟨rv, ⟨V.ref (s.heap.objs.size + 1), H', I3, rfl, q3⟩⟩
    | next => exact False.elim hq'
    | brk => exact False.elim hq'
    | cont => exact False.elim hq'
theorem pe_make (M : Mk X.K C f) (F : FnOk X.prog X.w X.K X.mg X.base CX k f fd ps sp) (hr : Room (k + 1) X.A) (hg : Gl X x) (hm : X.mg x = some (.ref C)) (hb : Binds X.K fd ps ds) (hd : Vals dvs ds) (hx : Passes CX X E)
    (ha : PA X (e :: es) t) (hdb : (x == ("__debug__" : Str)) = false := by decide) (he : starEach (e :: es) X.env = (false, eval e X.env) :: starEach es X.env := by rfl) (hpl : (backTo pos (starEach es X.env)).any (·.1) = false := by rfl) :
    PE X (.Call (.Name x p) (e :: es) [] pos) (tMake C sp dvs E t) := by
  intro pins s σ H Q I h
  refine wpAny_Call_Name_kw (ld_glob I hg hm ?_ hdb)
  refine PySem.W.callWith_K (h₀ := X.base) I.ok.mod.kin M.kp (thn (ha pos pins s σ H _ I h) fun us s1 ⟨vs, H1, I1, r, q⟩ => ⟨I1.kIn, ?_⟩) he hpl
  exact run_make M F hr hb hd hx I1 r q
theorem pe_make0 (M : Mk X.K C f) (F : FnOk X.prog X.w X.K X.mg X.base CX k f fd ps sp) (hr : Room (k + 1) X.A) (hg : Gl X x) (hm : X.mg x = some (.ref C)) (hb : Binds X.K fd ps ds) (hd : Vals dvs ds) (hx : Passes CX X E)
    (hdb : (x == ("__debug__" : Str)) = false := by decide) : PE X (.Call (.Name x p) [] [] pos) (tMake C sp dvs E tNil) := by
  intro pins s σ H Q I h
  refine wpAny_Call_Name_kw (ld_glob I hg hm ?_ hdb)
  exact PySem.W.callWith_K0 I.kIn M.kp (run_make (us := []) M F hr hb hd hx I .nil h)
end

/-! ### keywords -/
/-- the values of the keywords, from the left -/
def PK (X : Cx) (kws : List Keyword) (t : TA) : Prop :=
  ∀ (pos : Pos) (pins : List (Addr × Obj)) (s : Shared) (σ : St) (H : Hp) (Q : List V → Hp → Prop), Inv X pins σ H s → t σ H Q → wpAny (model X.prog X.w) X.A (evalAll ((backToKw pos (keywordEach kws X.env)).map (·.2))) (AP X pins σ Q) X.xe s
section
variable {X : Cx} {CX : CXT} {k : Nat} {f C : Addr} {fd : FuncData} {ps ks : List Str} {sp : Sp} {E : XK} {x m : Str} {p pos apos kpos : Pos} {e o : Expr} {es : List Expr} {kws : List Keyword} {te ta : TE} {t tk : TA} {nm : Option Str}
theorem pk_nil : PK X [] tNil := fun _ _ _ _ H Q I h => wpAny_evalAll_nil ⟨[], H, I, .nil, h⟩
theorem pk_cons (ha : PE X e te) (hr : PK X kws t) : PK X (⟨nm, e, kpos⟩ :: kws) (tCons te t) := by
  intro pos pins s σ H Q I h
  show wpAny _ _ (evalAll ((do let v ← eval e X.env; standAt pos; pure v) :: (backToKw pos (keywordEach kws X.env)).map (·.2))) _ _ s
  refine wpAny_evalAll_cons (wpAny_bind (thn (ha pins s σ H _ I h) fun u s1 ⟨x, H1, I1, r1, q1⟩ => wpAny_bind (wpAny_standAt (wpAny_pure ?_))))
  exact thn (hr pos pins s1 σ H1 _ I1 q1) fun us s2 ⟨xs, H2, I2, r2, q2⟩ => ⟨x :: xs, H2, I2, .cons r1 r2, q2⟩

/-- how a call with keywords binds: g puts the positional values us and the keywords' values ws (names ks) in the parameters' order, defaults among them -/
structure KBinds (K : PySem.W.Frag) (fd : FuncData) (ps ks : List Str) (g : List Value → List Value → List Value) (gV : List V → List V → List V) : Prop where
  to : ∀ (s : Shared) (us ws : List Value), K.In s.heap → (g us ws).length = ps.length → BindsTo s fd ⟨us, ks.zip ws⟩ (ps.zip (g us ws))
  rel : ∀ {vs : List V} {us : List Value} {zs : List V} {ws : List Value}, Vals vs us → Vals zs ws → Vals (gV vs zs) (g us ws)
def tCallK (sp : Sp) (gV : List V → List V → List V) (E : XK) (t tk : TA) : TE := fun σ H Q => t σ H fun vs H1 => tk σ H1 fun zs H2 => sp (gV vs zs) H2 Q E
variable {g : List Value → List Value → List Value} {gV : List V → List V → List V}
theorem run_fnk {pins : List (Addr × Obj)} {σ : St} {H : Hp} {s : Shared} {Q : VK} {us ws : List Value} {vs zs : List V} (F : FnOk X.prog X.w X.K X.mg X.base CX k f fd ps sp) (hr : Room k X.A) (hb : KBinds X.K fd ps ks g gV) (hx : Passes CX X E)
    (I : Inv X pins σ H s) (r : Vals vs us) (rz : Vals zs ws) (h : sp (gV vs zs) H Q E) : wpAny (model X.prog X.w) X.A (call (.ref f) us (ks.zip ws)) (EP X pins σ Q) X.xe s := by
  have r2 := hb.rel r rz
  have hl : (g us ws).length = ps.length := by rw [← r2.length]; exact F.len _ _ _ _ h
  refine wpAny_call (codeAny_mono (F.run X.A X.stack s H ⟨us, ks.zip ws⟩ (g us ws) (gV vs zs) Q E hr I.env0 (hb.to s us ws I.kIn hl) r2 h) fun r s' hq => ?_)
  cases r with
  | error e => exact hx pins σ H s e s' I hq
  | ok fl =>
    cases fl with
    | ret u => exact I.after hq
    | next => exact False.elim hq
    | brk => exact False.elim hq
    | cont => exact False.elim hq
/-- f(e, .., k = v, ..) -/
theorem pe_callK (F : FnOk X.prog X.w X.K X.mg X.base CX k f fd ps sp) (hr : Room k X.A) (hg : Gl X x) (hm : X.mg x = some (.ref f)) (hk : PySem.W.keepIn X.K (.ref f) = true) (hb : KBinds X.K fd ps ks g gV) (hx : Passes CX X E)
    (ha : PA X (e :: es) t) (hkw : PK X kws tk) (hall : (backToKw pos (keywordEach kws X.env)).all (·.1.isSome) = true := by rfl) (hks : (backToKw pos (keywordEach kws X.env)).filterMap (·.1) = ks := by rfl)
    (hdb : (x == ("__debug__" : Str)) = false := by decide) (he : starEach (e :: es) X.env = (false, eval e X.env) :: starEach es X.env := by rfl)
    (hpl : ((backTo pos (starEach (e :: es) X.env)).any (·.1) || (backToKw pos (keywordEach kws X.env)).any (·.1.isNone)) = false := by rfl) :
    PE X (.Call (.Name x p) (e :: es) kws pos) (tCallK sp gV E t tk) := by
  intro pins s σ H Q I h
  refine wpAny_Call_Name_kw (ld_glob I hg hm ?_ hdb)
  refine PySem.W.callWith_KW (h₀ := X.base) I.ok.mod.kin hk hall (thn (ha pos pins s σ H _ I h) fun us s1 ⟨vs, H1, I1, r, q⟩ => ?_) hpl he
  refine thn (hkw pos pins s1 σ H1 _ I1 q) fun ws s2 ⟨zs, H2, I2, rz, q2⟩ => ⟨I2.kIn, ?_⟩
  rw [hks]
  exact run_fnk F hr hb hx I2 r rz q2
end

/-! ### a def's body keeps its promise -/
/-- names: the parameters first -/
structure FnScope (N P : List Str) (sc : Scope) : Prop where
  kind : sc.kind = .function
  co : sc.isCoroutine = false
  gen : sc.isGenerator = false
  nd : N.Nodup
  pre : N.take P.length = P
  par : ∀ x ∈ P, sc.names.lookup x = some .local ∨ sc.names.lookup x = some .cell
  nofree : ∀ y ∈ sc.names, y.2 ≠ .free

theorem bindL_out {kindOf : Str → Option NameKind} {x : Str} : ∀ {binds : List (Str × Value)} {m : Str → Option Value}, (∀ v, (x, v) ∉ binds) → bindL kindOf binds m x = m x
  | [], _, _ => rfl
  | (n, v) :: r, m, h => by
    unfold bindL
    rw [bindL_out fun w hw => h w (List.mem_cons_of_mem _ hw)]
    split
    · have : x ≠ n := by rintro rfl; exact h v List.mem_cons_self
      simp [this]
    · rfl
theorem bindC_out {kindOf : Str → Option NameKind} {x : Str} : ∀ {binds : List (Str × Value)} {m : Str → Option Value}, (∀ v, (x, v) ∉ binds) → bindC kindOf binds m x = m x
  | [], _, _ => rfl
  | (n, v) :: r, m, h => by
    unfold bindC
    rw [bindC_out fun w hw => h w (List.mem_cons_of_mem _ hw)]
    split
    · rfl
    · have : x ≠ n := by rintro rfl; exact h v List.mem_cons_self
      simp [this]
theorem bindL_get {kindOf : Str → Option NameKind} {x : Str} {v : Value} : ∀ {P : List Str} {vs : List Value} {i : Nat} {m : Str → Option Value}, P.Nodup → P[i]? = some x → vs[i]? = some v → kindOf x = some .local →
    bindL kindOf (P.zip vs) m x = some v
  | [], _, _, _, _, h, _, _ => by simp at h
  | _ :: _, [], _, _, _, _, h, _ => by simp at h
  | p :: P, w :: vs, 0, m, nd, h1, h2, hk => by
    simp at h1 h2; subst h1; subst h2
    show bindL kindOf ((p, w) :: P.zip vs) m p = _
    unfold bindL
    rw [bindL_out fun v hv => (List.nodup_cons.mp nd).1 (List.of_mem_zip hv).1, if_pos hk]
    simp
  | p :: P, w :: vs, i + 1, m, nd, h1, h2, hk => by
    show bindL kindOf ((p, w) :: P.zip vs) m x = _
    unfold bindL
    exact bindL_get (i := i) (List.nodup_cons.mp nd).2 (by simpa using h1) (by simpa using h2) hk
theorem bindC_get {kindOf : Str → Option NameKind} {x : Str} {v : Value} : ∀ {P : List Str} {vs : List Value} {i : Nat} {m : Str → Option Value}, P.Nodup → P[i]? = some x → vs[i]? = some v → kindOf x ≠ some .local →
    bindC kindOf (P.zip vs) m x = some v
  | [], _, _, _, _, h, _, _ => by simp at h
  | _ :: _, [], _, _, _, _, h, _ => by simp at h
  | p :: P, w :: vs, 0, m, nd, h1, h2, hk => by
    simp at h1 h2; subst h1; subst h2
    show bindC kindOf ((p, w) :: P.zip vs) m p = _
    unfold bindC
    rw [bindC_out fun v hv => (List.nodup_cons.mp nd).1 (List.of_mem_zip hv).1, if_neg hk]
    simp
  | p :: P, w :: vs, i + 1, m, nd, h1, h2, hk => by
    show bindC kindOf ((p, w) :: P.zip vs) m x = _
    unfold bindC
    exact bindC_get (i := i) (List.nodup_cons.mp nd).2 (by simpa using h1) (by simpa using h2) hk

/-- the names' values at the entry -/
def start (N : List Str) (vs : List V) : St := vs.map some ++ List.replicate (N.length - vs.length) none

/-- the context of a def's body, at its entry; an exception leaves the frame, then lies as CX says -/
def cxOf (CX : CXT) (P : Program) (w : World) (K : PySem.W.Frag) (mg : Str → Option Value) (base : Heap) (N : List Str) (qual : Str) (scope : Scope) (f : Addr) (cd : Value) (A : Around) (outer : List Env) (s : Shared) (H : Hp) (E : XK) : Cx where
  prog := P
  w := w
  K := K
  mg := mg
  base := base
  A := A.deeper (envOfC qual scope s.heap.objs.size f cd)
  N := N
  s_0 := s
  H_0 := H
  env := envOfC qual scope s.heap.objs.size f cd
  outer := outer
  stack := envOfC qual scope s.heap.objs.size f cd :: outer
  ex := []
  calm := true
  fn := fun _ => true
  pn := []
  xe := fun e s' => wpAny (model P w) (A.deeper (envOfC qual scope s.heap.objs.size f cd)) (leaving (envOfC qual scope s.heap.objs.size f cd) e) (fun _ s'' => CX outer H s E e s'') (fun e' s'' => CX outer H s E e' s'') s'

theorem cell_has {sc : Scope} {n : Nat} {x : Str} (h : sc.names.lookup x = some .cell) : ∃ c, (cellsFrom n sc.names []).lookup x = some c := by
  have q := PySem.W.cellsFrom_some sc.names n [] (.inl h)
  exact Option.isSome_iff_exists.mp q

theorem inv_start {CX : CXT} {P : Program} {w : World} {K : PySem.W.Frag} {mg : Str → Option Value} {base : Heap} {N ps : List Str} {qual : Str} {scope : Scope} {f : Addr} {cd : Value} {A : Around} {outer : List Env} {s s1 : Shared} {H : Hp} {E : XK} {us : List Value} {vs : List V}
    (S : FnScope N ps scope) (hd : A.handled = none) (e0 : Env0 P w K mg base A outer s H) (hl : vs.length = ps.length) (r : Vals vs us)
    (x : InCallC s s.heap.objs.size (bindL (envOfC qual scope s.heap.objs.size f cd).kindOf (ps.zip us) fun _ => none) (cellsFrom (s.heap.objs.size + 1) scope.names []) (bindC (envOfC qual scope s.heap.objs.size f cd).kindOf (ps.zip us) fun _ => none) s1) :
    Inv (cxOf CX P w K mg base N qual scope f cd A outer s H E) [] (start N vs) H s1 := by
  have hpl : ps.length ≤ N.length := by have := congrArg List.length S.pre; rw [List.length_take] at this; omega
  obtain ⟨h1, tk, rfl, hk⟩ := x.done
  have noA : ∀ b : Addr, b ∉ (cxOf CX P w K mg base N qual scope f cd A outer s H E).ex := fun b z => absurd (show b ∈ ([] : List Addr) from z) (by simp)
  refine ⟨⟨e0.mod, S.kind, rfl, rfl, Nat.le_refl _, fun y z c h1 h2 => ?_, fun y hy => ?_, fun y c _ h => ?_, fun _ => hd, Around.frames_deeper e0.frames, .inr ⟨rfl, rfl⟩, fun b z => absurd z (noA b), e0.bs, e0.bsz, fun b _ _ => noA b, fun b z => absurd z (noA b), e0.funs, e0.frf⟩,
    rfl, e0.bare, Un.kept hk, ⟨_, x.toInCall.ns, fun i y v h1 h2 h3 => ?_⟩, fun y c h => ⟨_, x.cell y c h⟩, e0.hok.fresh (Nat.le_refl _), fun y c h => ?_, fun p hp => absurd (show p ∈ ([] : List (Addr × Obj)) from hp) (by simp), e0.hok.kept hk, ?_⟩
  · exact name_of_addr x.apart (PySem.mem_of_lookup h1) (PySem.mem_of_lookup h2)
  · have hy : scope.names.lookup y = some .cell ∨ scope.names.lookup y = some .free := hy
    rcases hy with hy | hy
    · exact cell_has hy
    · exact absurd rfl (S.nofree _ (PySem.mem_of_lookup hy))
  · exact Nat.le_of_lt (x.above y c (PySem.mem_of_lookup h))
  · have hi : i < vs.length := by
      unfold start at h2
      by_cases hi : i < vs.length
      · exact hi
      · rw [List.getElem?_append_right (by simpa using hi)] at h2
        rw [List.getElem?_replicate] at h2
        split at h2 <;> cases h2
    have ha : vs[i]? = some v := by
      unfold start at h2
      rw [List.getElem?_append_left (by simpa using hi), List.getElem?_map] at h2
      cases e : vs[i]? with
      | none => rw [e] at h2; cases h2
      | some a => rw [e] at h2; cases h2; rfl
    obtain ⟨u, hu, rv⟩ := r.get ha
    have hp : ps[i]? = some y := by
      rw [← S.pre, List.getElem?_take_of_lt (by omega)]; exact h1
    have ndP : ps.Nodup := by rw [← S.pre]; exact S.nd.sublist (List.take_sublist _ _)
    refine ⟨u, rv, ?_⟩
    rcases S.par y (List.mem_of_getElem? hp) with k | k
    · exact .inl ⟨k, bindL_get ndP hp hu k⟩
    · obtain ⟨c, e⟩ := cell_has (n := s.heap.objs.size + 1) k
      refine .inr ⟨.inl k, c, e, ?_⟩
      have q := x.cell y c e
      rw [bindC_get ndP hp hu (by show scope.names.lookup y ≠ _; rw [k]; decide)] at q
      exact q
  · exact e0.hok.fresh (Nat.le_of_lt (x.above y c (PySem.mem_of_lookup h)))
  · unfold start
    show _ = N.length
    rw [List.length_append, List.length_map, List.length_replicate]
    omega

/-- THE RULE: a def (or a method) of the text, by its body. The body's reading t is chosen for each entry; it is run at the parameters' values -/
theorem fn_of {CX : CXT} {P : Program} {w : World} {K : PySem.W.Frag} {mg : Str → Option Value} {base : Heap} {k : Nat} {f : Addr} {name qual : Str} {params : Arguments} {body : List Stmt} {scope : Scope} {dV kV doc pm cdv ct oc : Value} {an od : Option Addr}
    {osl : Array (Option Value)} {N ps : List Str} {sp : Sp} (lk : K.lookup f = some ⟨oc, od, .func (PySem.W.fnOf name qual params body scope dV kV doc pm an cdv ct), osl⟩) (hcd : PySem.W.codeIn K cdv qual = true) (S : FnScope N ps scope)
    (len : ∀ vs H Q E, sp vs H Q E → vs.length = ps.length)
    (hbody : ∀ (A : Around) (outer : List Env) (s : Shared) (H : Hp) (vs : List V) (Q : VK) (E : XK), Room k (A.deeper (envOfC qual scope s.heap.objs.size f cdv)) → sp vs H Q E →
      ∃ t, PSs (cxOf CX P w K mg base N qual scope f cdv A outer s H E) body t ∧ t { nx := fun _ H' => Q .non H', rt := Q } (start N vs) H) :
    FnOk P w K mg base CX (k + 1) f (PySem.W.fnOf name qual params body scope dV kV doc pm an cdv ct) ps sp := by
  refine ⟨len, fun A outer s H args us vs Q E hr e0 hb r hsp => ?_⟩
  have hl := len _ _ _ _ hsp
  have KX : K.In s.heap := e0.mod.kin.keeps fun b o e => (e0.bs b o e).1
  have lim : s.heap.NoLimit := e0.mod.nolimit.keeps fun b o e => (e0.bs b o e).1
  have hkind : ∀ y ∈ ps.zip us, scope.names.lookup y.1 = some .local ∨ (scope.names.lookup y.1 = some .cell ∧ ((cellsFrom (s.heap.objs.size + 1) scope.names []).lookup y.1).isSome = true) := fun ⟨n, v⟩ hy => by
    rcases S.par n (List.of_mem_zip hy).1 with q | q
    · exact .inl q
    · exact .inr ⟨q, PySem.W.cellsFrom_some _ _ _ (.inl q)⟩
  refine codeAny_call_function hr.depth (KX _ _ lk) rfl S.co S.gen rfl (PySem.W.codeRec_of KX hcd) (hb _ _ _ _ ?_)
  refine wpAny_newFunctionEnv_cells S.kind hkind fun env he s1 x => ?_
  subst he
  refine ⟨lim.keeps x.toInCall.keep, codeAny_func ?_⟩
  obtain ⟨t, ht, hq⟩ := hbody A outer s H vs Q E (hr.deeper _) hsp
  have I : Inv (cxOf CX P w K mg base N qual scope f cdv A outer s H E) [] (start N vs) H s1 := inv_start S hr.hd e0 hl r x
  refine wpAny_mono (ht [] s1 (start N vs) H _ I hq) (fun fl s' hs => ?_) fun e s' hs => hs
  have fin : ∀ {σ' : St} {H' : Hp} {v : V} {u : Value}, Inv (cxOf CX P w K mg base N qual scope f cdv A outer s H E) [] σ' H' s' → RelV v u → Q v H' → CE outer P w H s Q u s' :=
    fun {σ' H' v u} J rv q => ⟨v, H', J.os, J.bare, J.base, J.hok, rv, q⟩
  cases fl with
  | ret u =>
    obtain ⟨v, σ', H', J, rv, q⟩ := hs
    exact fin J rv q
  | next =>
    obtain ⟨σ', H', J, q⟩ := hs
    exact fin (v := V.non) (u := Value.none) J rfl q
  | brk =>
    obtain ⟨_, _, _, q⟩ := hs
    exact False.elim q
  | cont =>
    obtain ⟨_, _, _, q⟩ := hs
    exact False.elim q
end L2

namespace L2
open PySem PySem.Spec PyProof.Rows
section
variable {X : Cx} {x : Str} {p pos : Pos} {e : Expr} {es : List Expr} {t : TA} {id T : String} {r : List V → Hp → VK → Prop}

def tCB (r : List V → Hp → VK → Prop) (t : TA) : TE := fun σ H Q => t σ H fun vs H1 => r vs H1 Q
/-- f(e, ..), f a built-in function -/
theorem pe_callB (hc : CallR X (.builtin id) r) (hg : Gl X x) (hm : X.mg x = none) (hv : bootBuiltins x = some (.builtin id)) (ha : PA X (e :: es) t) (hn : x ≠ "__name__" := by decide) (hdb : (x == ("__debug__" : Str)) = false := by decide)
    (he : starEach (e :: es) X.env = (false, eval e X.env) :: starEach es X.env := by rfl) (hpl : (backTo pos (starEach es X.env)).any (·.1) = false := by rfl) : PE X (.Call (.Name x p) (e :: es) [] pos) (tCB r t) := by
  intro pins s σ H Q I h
  refine wpAny_Call_Name_kw (ld_blt I hg hm hv ?_ hn hdb)
  exact PyProof.Rows.callWith_builtin1 (thn (ha pos pins s σ H _ I h) fun us s1 ⟨vs, H1, I1, r1, q1⟩ => hc pins s1 σ H1 vs us Q I1 r1 q1) he hpl
/-- T(e, ..), T a built-in type -/
theorem pe_callTy (hc : CallR X (.type T) r) (hg : Gl X x) (hm : X.mg x = none) (hv : bootBuiltins x = some (.type T)) (ha : PA X (e :: es) t) (hn : x ≠ "__name__" := by decide) (hdb : (x == ("__debug__" : Str)) = false := by decide)
    (he : starEach (e :: es) X.env = (false, eval e X.env) :: starEach es X.env := by rfl) (hpl : (backTo pos (starEach es X.env)).any (·.1) = false := by rfl) : PE X (.Call (.Name x p) (e :: es) [] pos) (tCB r t) := by
  intro pins s σ H Q I h
  refine wpAny_Call_Name_kw (ld_blt I hg hm hv ?_ hn hdb)
  exact PyProof.Rows.callWith_type1 (thn (ha pos pins s σ H _ I h) fun us s1 ⟨vs, H1, I1, r1, q1⟩ => hc pins s1 σ H1 vs us Q I1 r1 q1) he hpl
/-- T() -/
theorem pe_callTy0 (hc : CallR X (.type T) r) (hg : Gl X x) (hm : X.mg x = none) (hv : bootBuiltins x = some (.type T)) (hn : x ≠ "__name__" := by decide) (hdb : (x == ("__debug__" : Str)) = false := by decide) :
    PE X (.Call (.Name x p) [] [] pos) (tCB r tNil) := by
  intro pins s σ H Q I h
  refine wpAny_Call_Name_kw (ld_blt I hg hm hv ?_ hn hdb)
  exact PyProof.Rows.callWith_type0 (hc pins s σ H [] [] Q I .nil h)
end
end L2

namespace HT
open PySem PyProof.Rows

/-- t < u of tuples of ints -/
def lexLt : List Int → List Int → Bool
  | [], [] => false
  | [], _ :: _ => true
  | _ :: _, [] => false
  | x :: xs, y :: ys => if x = y then lexLt xs ys else decide (x < y)
theorem lexLt_cons (x y : Int) (xs ys : List Int) : lexLt (x :: xs) (y :: ys) = if x = y then lexLt xs ys else decide (x < y) := rfl
theorem lexLt_nil_nil : lexLt [] [] = false := rfl
theorem lexLt_nil_cons (y : Int) (ys : List Int) : lexLt [] (y :: ys) = true := rfl
theorem lexLt_cons_nil (x : Int) (xs : List Int) : lexLt (x :: xs) [] = false := rfl

theorem eqAt_int (A : Around) (s : Shared) (a : Int) (t : Tok) (c : Int) (u : Tok) : ∃ e, SeqAt.EqAt A s (.int a t) (.int c u) e ∧ (e = true ↔ a = c) :=
  ⟨(a == c), SeqAt.EqAt.int_int a t c u, by simp⟩
theorem rcLt_int (A : Around) (s : Shared) (a : Int) (t : Tok) (c : Int) (u : Tok) (prog : Program) (w : World) (E : Value → Shared → Prop) (Q : Value → Shared → Prop) (h : Q (.bool (decide (a < c))) s) :
    wpAny (model prog w) A (richCompare .Lt (.int a t) (.int c u)) Q E s :=
  (PyProof.Rows.lt_int h : wpAny (model prog w) A (compareOp .Lt (.int a t) (.int c u)) Q E s)

section
open PySem.SeqAt
open PySem.AutoSeq1 (wpAny_loadPart')
open PySem.MeetsSeq PySem.MeetsSeq2 PySem.MeetsSeq3

theorem tuple_lt_ints (l b : Addr) (items items2 : Array Value) (n n2 : Nat) (dd dd2 : Option Addr) (sl sl2 : Array (Option Value)) (ns ms : List Int) (hi : IntsAre items.toList ns) (hj : IntsAre items2.toList ms) :
    Meets (Builtin.«tuple.__lt__» ⟨[.ref l, .ref b], []⟩)
      (fun _ R s => s.heap.get? l = some { cls := .type "tuple", dict := dd, data := .seq items n, slots := sl } ∧ s.heap.get? b = some { cls := .type "tuple", dict := dd2, data := .seq items2 n2, slots := sl2 } ∧
        R (.ok (.ret (.bool (lexLt ns ms)))) s) :=
  .of_wp fun prog w A R s h => by
    obtain ⟨hp, g, d, tk, os⟩ := s; obtain ⟨hl, hb, h⟩ := h
    have f2 := AutoSeq1.sub_tuple_tuple
    have z1 : items.size = ns.length := by rw [← hi.length]; simp
    have z2 : items2.size = ms.length := by rw [← hj.length]; simp
    wp_walk using wpAny_loadPart' hl, wpAny_loadPart' hb, wpAny_forIn_list _ (fun rest b s' => b.1 = none ∧ s' = ⟨hp, g, d, tk, os⟩ ∧ ∃ (vs ws : List Value) (ns' ms' : List Int), rest = vs.zip ws ∧
      IntsAre vs ns' ∧ IntsAre ws ms' ∧ ns'.length + items2.size = ms'.length + items.size ∧ R (.ok (.ret (.bool (lexLt ns' ms')))) ⟨hp, g, d, tk, os⟩) _
    case turn =>
      rintro ⟨y, x⟩ rest b s' ⟨hb', rfl, vs, ws, ns', ms', hz, hvi, hwi, hlen, hR⟩
      cases hvi with
      | nil => rw [List.zip_nil_left] at hz; cases hz
      | cons a t hvi' =>
        cases hwi with
        | nil => rw [List.zip_nil_right] at hz; cases hz
        | cons c u hwi' =>
          rw [List.zip_cons_cons] at hz
          injection hz with hyx hrest
          injection hyx with hy hx
          subst hy hx
          rw [lexLt_cons] at hR
          simp only [List.length_cons] at hlen
          obtain ⟨e, he, hiff⟩ := eqAt_int A.in1 ⟨hp, g, d, tk, os⟩ a t c u
          refine wpAny_bind (he prog w _ _ ?_)
          cases e with
          | true =>
            rw [if_pos (hiff.mp rfl)] at hR
            wp_walk
            exact ⟨rfl, rfl, _, _, _, _, hrest, hvi', hwi', by omega, hR⟩
          | false =>
            rw [if_neg (fun q => absurd (hiff.mpr q) Bool.false_ne_true)] at hR
            have hri := rcLt_int A.in1 ⟨hp, g, d, tk, os⟩ a t c u prog w
            wp_walk using hri
            exact ⟨_, rfl, by simpa using hR⟩
    case fin =>
      rintro ⟨b1, b2⟩ s' ⟨hb', rfl, vs, ws, ns', ms', hz, hvi, hwi, hlen, hR⟩
      simp only at hb'
      subst hb'
      have hv : lexLt ns' ms' = decide (items.size < items2.size) := by
        cases hvi with
        | nil =>
          cases hwi with
          | nil =>
            simp only [List.length_nil] at hlen
            rw [lexLt_nil_nil]
            exact (decide_eq_false (by omega)).symm
          | cons c u hw =>
            simp only [List.length_nil, List.length_cons] at hlen
            rw [lexLt_nil_cons]
            exact (decide_eq_true (by omega)).symm
        | cons a t hv =>
          cases hwi with
          | nil =>
            simp only [List.length_nil, List.length_cons] at hlen
            rw [lexLt_cons_nil]
            exact (decide_eq_false (by omega)).symm
          | cons c u hw =>
            rw [List.zip_cons_cons] at hz
            cases hz
      rw [hv] at hR
      wp_walk
      exact ⟨_, rfl, by simpa [Builtin.Tuple.tupleCompareSizes] using hR⟩
    case h =>
      exact ⟨rfl, rfl, items.toList, items2.toList, ns, ms, rfl, hi, hj, by omega, h⟩
end

section
variable {prog : Program} {w : World} {A : Around} {E : Value → Shared → Prop} {s : Shared}

theorem lt_tupInts {l b : Addr} {items items2 : Array Value} {ns ms : List Int} {Q : Value → Shared → Prop} (hl : IsTup s.heap l items) (hb : IsTup s.heap b items2) (hi : IntsAre items.toList ns) (hj : IntsAre items2.toList ms)
    (hu : A.units < cLine) (h : Q (.bool (lexLt ns ms)) s) : wpAny (model prog w) A (compareOp .Lt (.ref l) (.ref b)) Q E s := by
  obtain ⟨⟨cls, dd, data, sl⟩, ho, hc, n, hd⟩ := id hl
  obtain ⟨⟨cls2, dd2, data2, sl2⟩, ho2, hc2, n2, hd2⟩ := id hb
  simp only at hc hd hc2 hd2
  subst hc hd hc2 hd2
  exact richCompare_meets_room (op := .Lt) ⟨_, ho, rfl⟩ ⟨_, ho2, rfl⟩ PySem.F.slot_tuple_lt PySem.F.entry_tuple_lt (PySem.F.args_tuple_lt_2 _ _) (tuple_lt_ints l b items items2 n n2 dd dd2 sl sl2 ns ms hi hj)
    ⟨ho, ho2, show Value.bool (lexLt ns ms) ≠ Value.notImplemented ∧ Q (.bool (lexLt ns ms)) s from ⟨(fun x => nomatch x), h⟩⟩ hu

/-- t + u, t not empty -/
theorem cat_tup {t b : Addr} {vs ws : List Value} {Q : Value → Shared → Prop} (ht : IsTup s.heap t vs.toArray) (hb : IsTup s.heap b ws.toArray) (hv : vs ≠ [])
    (h1 : ws = [] → Q (.ref t) s) (h2 : ws ≠ [] → Q (.ref s.heap.objs.size) { s with heap := s.heap.push { cls := .type "tuple", data := .seq (vs ++ ws).toArray } })
    (hsz : vs.length + ws.length ≤ sizeLine) : wpAny (model prog w) A (binaryOp .Add (.ref t) (.ref b)) Q E s := by
  obtain ⟨⟨cls, dd, data, sl⟩, ho, hc, n, hd⟩ := id ht
  obtain ⟨⟨cls2, dd2, data2, sl2⟩, ho2, hc2, n2, hd2⟩ := id hb
  simp only at hc hd hc2 hd2
  subst hc hd hc2 hd2
  have e : vs.toArray ++ ws.toArray = (vs ++ ws).toArray := by simp
  by_cases hw : ws = []
  · exact concat_meets ⟨_, ho, rfl⟩ ⟨_, ho2, rfl⟩ noFill_tuple_add seq_tuple_add PySem.F.slot_tuple_add PySem.F.entry_tuple_add (PySem.F.args_tuple_add_2 _ _)
      (tuple_addW1 t b vs.toArray ws.toArray n n2 dd dd2 sl sl2 (by simpa using hv) (by simp [hw])) ⟨ho, ho2, h1 hw⟩
  · refine concat_meets ⟨_, ho, rfl⟩ ⟨_, ho2, rfl⟩ noFill_tuple_add seq_tuple_add PySem.F.slot_tuple_add PySem.F.entry_tuple_add (PySem.F.args_tuple_add_2 _ _)
      (tuple_addW2 t b vs.toArray ws.toArray n n2 dd dd2 sl sl2 (by simpa using hv) (by simpa using hw) (by rw [List.size_toArray, List.size_toArray]; exact hsz)) ⟨ho, ho2, ?_⟩
    rw [e]
    exact h2 hw

/-! ### t[a:b], not the whole -/
/-- a slice's bound as a place among n (d where it is left out) -/
def sIx (n d : Nat) : Option Int → Nat
  | none => d
  | some v => if v < 0 then (v + (n : Int)).toNat else min v.toNat n
theorem sIx_none (n d : Nat) : sIx n d none = d := rfl
theorem sIx_nat (n d k : Nat) : sIx n d (some (k : Int)) = min k n := by
  show (if (k : Int) < 0 then ((k : Int) + (n : Int)).toNat else min (k : Int).toNat n) = min k n
  rw [if_neg (by omega), Int.toNat_natCast]
theorem sIx_le (n d : Nat) (hd : d ≤ n) (o : Option Int) : sIx n d o ≤ n := by
  cases o with
  | none => exact hd
  | some v =>
    show (if v < 0 then (v + (n : Int)).toNat else min v.toNat n) ≤ n
    by_cases hv : v < 0
    · rw [if_pos hv]; omega
    · rw [if_neg hv]; exact Nat.min_le_right _ _
theorem clip_eq (v : Int) (n d : Nat) : (if v < 0 then max (v + (n : Int)) 0 else min v (n : Int)) = ((sIx n d (some v) : Nat) : Int) := by
  show (if v < 0 then max (v + (n : Int)) 0 else min v (n : Int)) = (((if v < 0 then (v + (n : Int)).toNat else min v.toNat n) : Nat) : Int)
  by_cases hv : v < 0
  · simp only [if_pos hv]; omega
  · simp only [if_neg hv]; omega
theorem adjust_gen (lo hi : Option Int) (n : Nat) : Builtin.Slice.sliceAdjust lo hi 1 (n : Int) = (((sIx n 0 lo : Nat) : Int), ((sIx n n hi : Nat) : Int)) := by
  have h1 : ¬ ((1 : Int) < 0) := by omega
  unfold Builtin.Slice.sliceAdjust
  simp only [h1, if_false]
  refine Prod.ext ?_ ?_
  · cases lo with
    | none => rfl
    | some v => exact clip_eq v n 0
  · cases hi with
    | none => rfl
    | some v => exact clip_eq v n n
theorem places_gen (i j : Nat) : Builtin.Slice.slicePlaces (i : Int) (j : Int) 1 = j - i := by
  unfold Builtin.Slice.slicePlaces
  have h1 : (1 : Int) > 0 := by omega
  simp only [h1, if_true, Int.ediv_one]
  split <;> omega
theorem slicePart_ {v : Value} {o : Option Int} {Q : Option Int → Shared → Prop} (p : IsPart v o) (h : Q o s) : wpAny (model prog w) A (Builtin.Slice.slicePartIndex v) Q E s := by
  cases p with
  | none => exact slicePart_none h
  | int i t => exact slicePart_int h
theorem sliceApplied_gen {sl : Addr} {vl vu : Value} {lo hi : Option Int} {n : Nat} {Q : Int × Int × Nat → Shared → Prop} (hs : s.heap.IsSliceOf sl vl vu .none) (pl : IsPart vl lo) (pu : IsPart vu hi)
    (h : Q (((sIx n 0 lo : Nat) : Int), 1, sIx n n hi - sIx n 0 lo) s) : wpAny (model prog w) A (Builtin.Slice.sliceApplied (.ref sl) (pure (n : Int))) Q E s := by
  obtain ⟨os, hos, hcs, hds⟩ := id hs
  unfold Builtin.Slice.sliceApplied Builtin.Slice.sliceFields
  refine wpAny_bind (wpAny_bind (wpAny_field hos hds (x := vl) rfl (wpAny_bind (wpAny_field hos hds (x := vu) rfl (wpAny_bind (wpAny_field hos hds (x := .none) rfl (wpAny_pure ?_)))))))
  refine wpAny_bind (slicePart_none ?_)
  show wpAny _ _ (if ((1 : Int) == 0) = true then _ else _) _ _ s
  rw [if_neg (by decide)]
  refine wpAny_bind (slicePart_ pl (wpAny_bind (slicePart_ pu (wpAny_bind (wpAny_pure ?_)))))
  show wpAny _ _ (match Builtin.Slice.sliceAdjust lo hi 1 (n : Int) with | (lo, hi) => pure (lo, (1 : Int), Builtin.Slice.slicePlaces lo hi 1)) _ _ s
  rw [adjust_gen lo hi n]
  show wpAny _ _ (pure (((sIx n 0 lo : Nat) : Int), (1 : Int), Builtin.Slice.slicePlaces ((sIx n 0 lo : Nat) : Int) ((sIx n n hi : Nat) : Int) 1)) _ _ s
  rw [places_gen]
  exact wpAny_pure h
theorem pick_gen (xs : Array Value) (i k : Nat) : ((List.range k).filterMap fun (m : Nat) => xs[((i : Int) + (m : Int) * 1).toNat]?).toArray = ((xs.toList.drop i).take k).toArray := by
  have e : (fun (m : Nat) => xs[((i : Int) + (m : Int) * 1).toNat]?) = fun m => xs[i + m]? := by
    funext m
    have : ((i : Int) + (m : Int) * 1).toNat = i + m := by omega
    rw [this]
  rw [e]
  have := pick_run xs i k
  rw [List.filterMap_map] at this
  have e2 : ((fun x => xs[x]?) ∘ fun x => i + x) = fun m => xs[i + m]? := rfl
  rw [e2] at this
  rw [this]

theorem getItem_tuple_cut {t sl : Addr} {items : Array Value} {vl vu : Value} {lo hi : Option Int} {Q : Value → Shared → Prop} (ht : IsTup s.heap t items) (hs : s.heap.IsSliceOf sl vl vu .none) (pl : IsPart vl lo) (pu : IsPart vu hi)
    (hw : ¬ (sIx items.size 0 lo = 0 ∧ sIx items.size items.size hi = items.size))
    (h : Q (.ref s.heap.objs.size) { s with heap := s.heap.push { cls := .type "tuple", data := .seq ((items.toList.drop (sIx items.size 0 lo)).take (sIx items.size items.size hi - sIx items.size 0 lo)).toArray } })
    (hsz : items.size ≤ sizeLine) : wpAny (model prog w) A (getItem (.ref t) (.ref sl)) Q E s := by
  have htake : sizeOk (.seq ((items.toList.drop (sIx items.size 0 lo)).take (sIx items.size items.size hi - sIx items.size 0 lo)).toArray) := by
    show ((items.toList.drop (sIx items.size 0 lo)).take (sIx items.size items.size hi - sIx items.size 0 lo)).toArray.size ≤ sizeLine
    rw [List.size_toArray, List.length_take, List.length_drop, Array.length_toList]
    omega
  have hj : sIx items.size items.size hi ≤ items.size := sIx_le _ _ (Nat.le_refl _) hi
  obtain ⟨os, hos, hcs, hds⟩ := id hs
  have hTs : s.TypeIs (.ref sl) "slice" := ⟨os, hos, hcs⟩
  unfold getItem
  try with_reducible refine wpAny_holding ?_
  first | refine wpAny_bind (wpAny_pure ?_) | skip
  refine wpAny_bind (wpAny_sequenceKey ht.typeIs (by decide) ?_)
  refine wpAny_bind (wpAny_callSpecial?_slot (name := Str.ofString "__getitem__") ht.typeIs PyProof.Rows.slot_tuple_getitem
    (wpAny_call_entry PyProof.Rows.slot_tuple_getitem ht.typeIs entry_tuple_getitem ?_ (args_tuple_getitem _ _)))
  show wpAny _ _ (Builtin.Tuple.tupleItemsOf (.ref t) >>= _) _ _ s
  refine wpAny_bind (tupleItemsOf_ ht ?_)
  refine wpAny_bind (wpAny_typeOf hTs ?_)
  rw [if_pos (by decide)]
  refine wpAny_bind (sliceApplied_gen hs pl pu ?_)
  have hno : ¬ ((((sIx items.size 0 lo : Nat) : Int) == 0 && (1 : Int) == 1 && (sIx items.size items.size hi - sIx items.size 0 lo) == items.size) = true) := by
    intro q
    rw [Bool.and_eq_true, Bool.and_eq_true] at q
    have q1 : ((sIx items.size 0 lo : Nat) : Int) = 0 := eq_of_beq q.1.1
    have q2 : sIx items.size items.size hi - sIx items.size 0 lo = items.size := eq_of_beq q.2
    exact hw ⟨by omega, by omega⟩
  show wpAny _ _ (if (((sIx items.size 0 lo : Nat) : Int) == 0 && (1 : Int) == 1 && (sIx items.size items.size hi - sIx items.size 0 lo) == items.size) = true then _ else _) _ _ s
  rw [if_neg hno, pick_gen]
  first
    | exact wpAny_bind (m := Builtin.Tuple.tupleExact _) (wpAny_newObj_type (wpAny_pure ⟨_, rfl, wpAny_pure h⟩) htake)
    | exact wpAny_bind (m := Builtin.Tuple.tupleExact _) (wpAny_newObj_type (wpAny_bind (wpAny_pure (wpAny_pure ⟨_, rfl, wpAny_pure h⟩))) htake)
    | exact wpAny_bind (wpAny_bind (m := Builtin.Tuple.tupleExact _) (wpAny_newObj_type (wpAny_pure (wpAny_pure ⟨_, rfl, wpAny_pure h⟩)) htake))
    | exact wpAny_bind (wpAny_bind (m := Builtin.Tuple.tupleExact _) (wpAny_newObj_type (wpAny_pure ⟨_, rfl, wpAny_pure h⟩) htake))
end
end HT

namespace L2
open PySem PySem.Spec PyProof.Rows

/-! ### the parts of a slice -/
abbrev TO := St → Hp → (Option Int → Hp → Prop) → Prop
/-- a slice's part (left out, or an int) -/
def PO (X : Cx) (e : Option Expr) (t : TO) : Prop :=
  ∀ (pins : List (Addr × Obj)) (s : Shared) (σ : St) (H : Hp) (Q : Option Int → Hp → Prop), Inv X pins σ H s → t σ H Q →
    wpAny (model X.prog X.w) X.A (evalPart e X.env) (fun u s' => ∃ o H', Inv X pins σ H' s' ∧ IsPart u o ∧ Q o H') X.xe s
def tNoPart : TO := fun _ H Q => Q none H
def tPart (t : TE) : TO := fun σ H Q => t σ H fun x H1 => ∃ i, x = .int i ∧ Q (some i) H1

theorem intsAre_of {ns : List Int} : ∀ {us : List Value}, Vals (ns.map V.int) us → IntsAre us ns := by
  induction ns with
  | nil => intro us r; rw [List.map_nil] at r; cases r; exact .nil
  | cons n ns ih =>
    intro us r
    rw [List.map_cons] at r
    cases r with
    | cons r1 r2 =>
      obtain ⟨t, e⟩ := r1
      subst e
      exact .cons n t (ih r2)

section
variable {X : Cx} {e : Expr} {te : TE} {lo hi : Option Expr} {tl th : TO} {pos p2 : Pos}

theorem po_none : PO X none tNoPart := by
  intro pins s σ H Q I h
  rw [evalPart_none]
  exact wpAny_pure ⟨none, H, I, .none, h⟩
theorem po_some (h : PE X e te) : PO X (some e) (tPart te) := by
  intro pins s σ H Q I hw
  rw [evalPart_some]
  refine thn (h pins s σ H _ I hw) fun u s1 ⟨x, H1, I1, r1, q1⟩ => ?_
  obtain ⟨i, rfl, q⟩ := q1
  obtain ⟨t, rfl⟩ := r1
  exact ⟨some i, H1, I1, .int i t, q⟩

/-- what a slice of a value is, by values: the slice object stands at sl -/
def SlR (X : Cx) (r : V → Option Int → Option Int → Hp → VK → Prop) : Prop :=
  ∀ (pins : List (Addr × Obj)) (s : Shared) (σ : St) (H : Hp) (x : V) (v vl vu : Value) (lo hi : Option Int) (sl : Addr) (Q : VK), Inv X pins σ H s → RelV x v → s.heap.IsSliceOf sl vl vu .none → IsPart vl lo → IsPart vu hi → r x lo hi H Q →
    ∃ T id, typeLookup (.type T) "__getitem__" = pure (some (.builtin id)) ∧ s.TypeIs v T ∧ wpAny (model X.prog X.w) X.A (getItem v (.ref sl)) (EP X pins σ Q) X.xe s
theorem SlR.or {r r' : V → Option Int → Option Int → Hp → VK → Prop} (h : SlR X r) (h' : SlR X r') : SlR X (fun x lo hi H Q => r x lo hi H Q ∨ r' x lo hi H Q) := by
  intro pins s σ H x v vl vu lo hi sl Q I rx hs pl pu q
  rcases q with q | q
  · exact h pins s σ H x v vl vu lo hi sl Q I rx hs pl pu q
  · exact h' pins s σ H x v vl vu lo hi sl Q I rx hs pl pu q
def tSl (r : V → Option Int → Option Int → Hp → VK → Prop) (te : TE) (tl th : TO) : TE := fun σ H Q => te σ H fun x H1 => tl σ H1 fun l H2 => th σ H2 fun u H3 => r x l u H3 Q
/-- a[lo:hi], any a -/
theorem pe_slice {r : V → Option Int → Option Int → Hp → VK → Prop} (hr : SlR X r) (he : PE X e te) (hl : PO X lo tl) (hu : PO X hi th) : PE X (.Subscript e (.Slice lo hi none p2) pos) (tSl r te tl th) := by
  intro pins s σ H Q I h
  refine Subscript_ (thn (he pins s σ H _ I h) fun v s1 ⟨x, H1, I1, r1, q1⟩ => ?_)
  refine wpAny_Slice (thn (hl pins s1 σ H1 _ I1 q1) fun vl s2 ⟨l, H2, I2, pl, q2⟩ => thn (hu pins s2 σ H2 _ I2 q2) fun vu s3 ⟨u, H3, I3, pu, q3⟩ => ?_)
  rw [evalPart_none]
  refine wpAny_pure ?_
  have I4 : Inv X pins σ H3 { s3 with heap := s3.heap.push { cls := .type "slice", data := .fields #[vl, vu, .none] } } := I3.kept (t' := s3.toks) fun b ob q => Heap.get?_push_of_some _ q
  obtain ⟨T, id, hT, ht, hg⟩ := hr pins { s3 with heap := s3.heap.push { cls := .type "slice", data := .fields #[vl, vu, .none] } } σ H3 x v vl vu l u s3.heap.objs.size Q I4 r1 (Heap.IsSliceOf.new ..) pl pu q3
  show wpAny (model X.prog X.w) X.A (subscriptTail e (.Slice lo hi none p2) v (.ref s3.heap.objs.size)) (EP X pins σ Q) X.xe { s3 with heap := s3.heap.push { cls := .type "slice", data := .fields #[vl, vu, .none] } }
  exact tail_any (ops := [.ref s3.heap.objs.size, v]) ht hT hg (by with_unfolding_all rfl)

/-- the items of xs[lo:hi] -/
def cutV (xs : List V) (lo hi : Option Int) : List V := (xs.drop (HT.sIx xs.length 0 lo)).take (HT.sIx xs.length xs.length hi - HT.sIx xs.length 0 lo)
theorem cutV_length (xs : List V) (lo hi : Option Int) : (cutV xs lo hi).length ≤ xs.length := by
  unfold cutV
  rw [List.length_take, List.length_drop]
  omega
/-- t[lo:hi], not the whole of it (the whole would be t itself) -/
def rSlT (K : PySem.W.Frag) : V → Option Int → Option Int → Hp → VK → Prop := fun x lo hi H Q => ∃ a xs, x = .ref a ∧ SqT K H a xs ∧
  ¬ (HT.sIx xs.length 0 lo = 0 ∧ HT.sIx xs.length xs.length hi = xs.length) ∧ ∀ p, H p = none → Q (.ref p) (upd H p (.tup (cutV xs lo hi)))
theorem sl_tup : SlR X (rSlT X.K) := by
  intro pins s σ H x v vl vu lo hi sl Q I rx hs pl pu h
  obtain ⟨a, xs, rfl, hx, hw, q⟩ := h
  cases rx
  obtain ⟨its, r, ht, hz⟩ := I.tuple hx
  have hlen : its.toArray.size = xs.length := by rw [List.size_toArray]; exact r.length.symm
  refine ⟨"tuple", _, PyProof.Rows.slot_tuple_getitem.lookup, ht.typeIs, ?_⟩
  refine HT.getItem_tuple_cut ht hs pl pu (by rw [hlen]; exact hw) ?_ (by rw [hlen]; exact hz)
  rw [hlen]
  refine ⟨.ref s.heap.objs.size, _, I.laid (t' := s.toks) (o := .tup (cutV xs lo hi)) (fun b ob q => Heap.get?_push_of_some _ q) (Nat.le_refl _) ?_, rfl, q _ (I.hok.fresh (Nat.le_refl _))⟩
  exact ⟨Nat.le_trans (cutV_length xs lo hi) hz, _, (r.drop (HT.sIx xs.length 0 lo)).take (HT.sIx xs.length xs.length hi - HT.sIx xs.length 0 lo), IsTup.new _ _⟩

/-! ### t < u, t + u -/
def rLtT (K : PySem.W.Frag) : R2 := fun x y H Q => ∃ a b ns ms, x = .ref a ∧ y = .ref b ∧ SqT K H a (ns.map V.int) ∧ SqT K H b (ms.map V.int) ∧ Q (.bl (HT.lexLt ns ms)) H
theorem op_ltT (hu : X.A.units < cLine) : OpR X (compareOp .Lt) (rLtT X.K) := by
  intro pins s σ H x y v u Q I rx ry h
  obtain ⟨a, b, ns, ms, rfl, rfl, ha, hb, q⟩ := h
  cases rx
  cases ry
  obtain ⟨its, r1, p1, _⟩ := I.tuple ha
  obtain ⟨its2, r2, p2, _⟩ := I.tuple hb
  have i1 : IntsAre its.toArray.toList ns := intsAre_of r1
  have i2 : IntsAre its2.toArray.toList ms := intsAre_of r2
  exact HT.lt_tupInts p1 p2 i1 i2 hu ⟨.bl (HT.lexLt ns ms), H, I, rfl, q⟩
/-- t + u, t not empty: u empty gives t itself -/
def rCatT (K : PySem.W.Frag) : R2 := fun x y H Q => ∃ a b xs ys, x = .ref a ∧ y = .ref b ∧ SqT K H a xs ∧ SqT K H b ys ∧ xs ≠ [] ∧ xs.length + ys.length ≤ sizeLine ∧
  (ys = [] → Q (.ref a) H) ∧ (ys ≠ [] → ∀ p, H p = none → Q (.ref p) (upd H p (.tup (xs ++ ys))))
theorem Vals.nil_iff {xs : List V} {us : List Value} (r : Vals xs us) : us = [] ↔ xs = [] := by
  cases r with
  | nil => simp
  | cons _ _ => simp
theorem op_catT : OpR X (binaryOp .Add) (rCatT X.K) := by
  intro pins s σ H x y v u Q I rx ry h
  obtain ⟨a, b, xs, ys, rfl, rfl, ha, hb, hx, hz, q1, q2⟩ := h
  cases rx
  cases ry
  obtain ⟨its, r1, p1, _⟩ := I.tuple ha
  obtain ⟨its2, r2, p2, _⟩ := I.tuple hb
  refine HT.cat_tup p1 p2 (fun z => hx (r1.nil_iff.mp z)) (fun z => ⟨.ref a, H, I, rfl, q1 (r2.nil_iff.mp z)⟩) (fun z => ?_) (by rw [← r1.length, ← r2.length]; exact hz)
  refine ⟨.ref s.heap.objs.size, _, I.laid (t' := s.toks) (o := .tup (xs ++ ys)) (fun b ob q => Heap.get?_push_of_some _ q) (Nat.le_refl _) ?_, rfl, q2 (fun w => z (r2.nil_iff.mpr w)) _ (I.hok.fresh (Nat.le_refl _))⟩
  exact ⟨by rw [List.length_append]; exact hz, _, r1.append r2, IsTup.new _ _⟩
/-- tuple(t) -/
theorem call_tupleT : CallR X (.type "tuple") (fun xs H Q => ∃ a ys, xs = [.ref a] ∧ SqT X.K H a ys ∧ Q (.ref a) H) := by
  intro pins s σ H xs us Q I r h
  obtain ⟨a, ys, rfl, ha, q⟩ := h
  obtain ⟨u, rfl, ru⟩ := vals1 r
  cases ru
  obtain ⟨its, _, p1, _⟩ := I.tuple ha
  exact call_tuple_same (items := its.toArray) p1 ⟨.ref a, H, I, rfl, q⟩
end
end L2

namespace L2
open PySem PySem.Spec PyProof.Rows

/-! ### places -/
/-- the place that an index of any sign means -/
def ixN (n : Nat) (i : Int) : Option Nat := if 0 ≤ i then (if i < n then some i.toNat else none) else if -(n : Int) ≤ i then some (i + n).toNat else none
def atI {α : Type} (xs : List α) (i : Int) : Option α := (ixN xs.length i).bind fun j => xs[j]?
theorem ixN_seq {n : Nat} {i : Int} {j : Nat} (h : ixN n i = some j) : seqIndex? i n = some j ∧ j < n ∧ -(n : Int) ≤ i ∧ i < n := by
  unfold ixN at h
  by_cases h0 : 0 ≤ i
  · rw [if_pos h0] at h
    by_cases h1 : i < n
    · rw [if_pos h1] at h
      have e : i.toNat = j := Option.some.inj h
      exact ⟨by rw [seqIndex_of h0 h1, e], by omega, by omega, h1⟩
    · rw [if_neg h1] at h; cases h
  · rw [if_neg h0] at h
    by_cases h1 : -(n : Int) ≤ i
    · rw [if_pos h1] at h
      have e : (i + n).toNat = j := Option.some.inj h
      exact ⟨by rw [seqIndex_neg (by omega) h1, e], by omega, h1, by omega⟩
    · rw [if_neg h1] at h; cases h
theorem atI_get {α : Type} {xs : List α} {i : Int} {v : α} (h : atI xs i = some v) : ∃ j, seqIndex? i xs.length = some j ∧ xs[j]? = some v ∧ j < xs.length ∧ -(xs.length : Int) ≤ i ∧ i < xs.length := by
  unfold atI at h
  cases e : ixN xs.length i with
  | none => rw [e] at h; cases h
  | some j =>
    rw [e] at h
    obtain ⟨h1, h2, h3, h4⟩ := ixN_seq e
    exact ⟨j, h1, h, h2, h3, h4⟩
theorem atI_nat {α : Type} {xs : List α} {j : Nat} {v : α} (h : xs[j]? = some v) : atI xs (j : Int) = some v := by
  have hj : j < xs.length := (List.getElem?_eq_some_iff.mp h).1
  have e : ixN xs.length (j : Int) = some j := by
    unfold ixN
    rw [if_pos (by omega), if_pos (by omega)]; simp
  unfold atI; rw [e]; exact h
theorem atI_last {α : Type} (xs : List α) (v : α) : atI (xs ++ [v]) (-1) = some v := by
  have hl : (xs ++ [v]).length = xs.length + 1 := by simp
  have e : ixN (xs ++ [v]).length (-1) = some xs.length := by
    unfold ixN
    rw [hl, if_neg (by decide), if_pos (by omega)]
    congr 1
    omega
  unfold atI
  rw [e]
  show (xs ++ [v])[xs.length]? = some v
  simp

/-! ### what may be subscripted -/
/-- what stands as an index of a plain subscript -/
def PlainIx (b : Expr) : Prop := ∀ o i, subscripted b false o i = operate [o, i] (getItem o i)
/-- a subscript by values -/
def IxR (X : Cx) (r : R2) : Prop :=
  ∀ (value slice : Expr) (pins : List (Addr × Obj)) (s : Shared) (σ : St) (H : Hp) (x y : V) (v u : Value) (Q : VK), Inv X pins σ H s → RelV x v → RelV y u → r x y H Q →
    subscripted slice false v u = operate [v, u] (getItem v u) → wpAny (model X.prog X.w) X.A (subscriptTail value slice v u) (EP X pins σ Q) X.xe s
/-- a call of a builtin's method by values: the receiver, the arguments -/
def MtR (X : Cx) (id : String) (r : V → List V → Hp → VK → Prop) : Prop :=
  ∀ (pins : List (Addr × Obj)) (s : Shared) (σ : St) (H : Hp) (x : V) (xs : List V) (v : Value) (us : List Value) (Q : VK), Inv X pins σ H s → RelV x v → Vals xs us → r x xs H Q →
    wpAny (model X.prog X.w) X.A (call (.builtin id) (v :: us)) (EP X pins σ Q) X.xe s
section
variable {X : Cx} {a b : Expr} {ta tb : TE} {pos : Pos}
theorem IxR.or {r r' : R2} (h : IxR X r) (h' : IxR X r') : IxR X (fun x y H Q => r x y H Q ∨ r' x y H Q) := by
  intro value slice pins s σ H x y v u Q I rx ry q hs
  rcases q with q | q
  · exact h value slice pins s σ H x y v u Q I rx ry q hs
  · exact h' value slice pins s σ H x y v u Q I rx ry q hs
theorem MtR.or {id : String} {r r' : V → List V → Hp → VK → Prop} (h : MtR X id r) (h' : MtR X id r') : MtR X id (fun x xs H Q => r x xs H Q ∨ r' x xs H Q) := by
  intro pins s σ H x xs v us Q I rx rs q
  rcases q with q | q
  · exact h pins s σ H x xs v us Q I rx rs q
  · exact h' pins s σ H x xs v us Q I rx rs q
/-- a[b] -/
theorem pe_ix {r : R2} (hr : IxR X r) (ha : PE X a ta) (hb : PE X b tb) (hs : PlainIx b) : PE X (.Subscript a b pos) (tOp r ta tb) := by
  intro pins s σ H Q I h
  exact Subscript_ (binT ha hb I h fun v u s2 x y H2 I2 rx ry q => hr a b pins s2 σ H2 x y v u Q I2 rx ry q (hs _ _))

def rIxL (K : PySem.W.Frag) : R2 := fun x y H Q => ∃ p xs i v, x = .ref p ∧ y = .int i ∧ SqL K H p xs ∧ atI xs i = some v ∧ Q v H
def rIxT (K : PySem.W.Frag) : R2 := fun x y H Q => ∃ p xs i v, x = .ref p ∧ y = .int i ∧ SqT K H p xs ∧ atI xs i = some v ∧ Q v H
def rIxS : R2 := fun x y H Q => ∃ z i c, x = .str z ∧ y = .int i ∧ z.length ≤ sizeLine ∧ atI z.cps.toList i = some c ∧ Q (.str ⟨#[c]⟩) H
theorem ix_list : IxR X (rIxL X.K) := by
  intro value slice pins s σ H x y v u Q I rx ry h hs
  obtain ⟨p, xs, i, z, rfl, rfl, hq, he, q⟩ := h
  cases rx
  obtain ⟨t, rfl⟩ := ry
  obtain ⟨its, r, pl, hz⟩ := I.list hq
  obtain ⟨j, h1, h2, h3, h4, h5⟩ := atI_get he
  obtain ⟨w, ew, rw'⟩ := r.get h2
  have hl := r.length
  have hn := line63
  have fin : EP X pins σ Q w s := ⟨z, H, I, rw', q⟩
  by_cases h0 : 0 ≤ i
  · have hj : i.toNat = j := by
      rw [seqIndex_of h0 h5] at h1
      exact Option.some.inj h1
    exact item_listR pl.isList h0 (by omega) (by rw [hj]; simpa using ew) fin hs
  · have hj : (i + (its.toArray.size : Int)).toNat = j := by
      rw [seqIndex_neg (by omega) h4] at h1
      rw [List.size_toArray, ← hl]
      exact Option.some.inj h1
    exact subscriptTail_builtinR (x := w) pl.isList.typeIs slot_list_getitem.lookup
      (wpAny_getItem_list_neg (Q := fun r s' => r = w ∧ EP X pins σ Q r s') pl.isList (by omega) (by rw [List.size_toArray] <;> omega) (by omega) (by rw [hj]; simpa using ew) ⟨rfl, fin⟩) hs
theorem ix_tup : IxR X (rIxT X.K) := by
  intro value slice pins s σ H x y v u Q I rx ry h hs
  obtain ⟨p, xs, i, z, rfl, rfl, hq, he, q⟩ := h
  cases rx
  obtain ⟨t, rfl⟩ := ry
  obtain ⟨its, r, pl, hz⟩ := I.tuple hq
  obtain ⟨j, h1, h2, h3, h4, h5⟩ := atI_get he
  obtain ⟨w, ew, rw'⟩ := r.get h2
  have hl := r.length
  have hn := line63
  have fin : EP X pins σ Q w s := ⟨z, H, I, rw', q⟩
  exact subscriptTail_builtinR (x := w) pl.typeIs slot_tuple_getitem.lookup
    (getItem_tuple (j := j) (Q := fun r s' => r = w ∧ EP X pins σ Q r s') pl (by omega) (by omega) (by rw [List.size_toArray, ← hl]; exact h1) (by simpa using ew) ⟨rfl, fin⟩) hs
theorem ix_str : IxR X rIxS := by
  intro value slice pins s σ H x y v u Q I rx ry h hs
  obtain ⟨z, i, c, rfl, rfl, hz, he, q⟩ := h
  obtain ⟨t, rfl⟩ := rx
  obtain ⟨t', rfl⟩ := ry
  obtain ⟨j, h1, h2, h3, h4, h5⟩ := atI_get he
  have hl : z.cps.toList.length = z.length := by simp [Str.length]
  rw [hl] at h1 h4 h5
  have hn := line63
  exact tail_any (typeIs_str s z t) slot_str_getitem.lookup (getItem_str (c := c) (by
    have e1 : decide (i < -(2 ^ 63 : Int)) = false := decide_eq_false (by omega)
    have e2 : decide (i ≥ 2 ^ 63) = false := decide_eq_false (by omega)
    rw [e1, e2, Bool.or_false]) (by rw [h1]; simpa using h2) ⟨.str ⟨#[c]⟩, H, I.tok _, ⟨_, rfl⟩, q⟩) hs
/-- list, tuple or str -/
def rIx (K : PySem.W.Frag) : R2 := fun x y H Q => rIxL K x y H Q ∨ rIxT K x y H Q ∨ rIxS x y H Q
theorem ix_seq : IxR X (rIx X.K) := ix_list.or (ix_tup.or ix_str)

/-! ### xs[i] = v, any sign -/
/-- the list's object behind a store -/
theorem mapSeq_set (its : List Value) (n j : Nat) (u : Value) : Obj.mapSeq (·.setIfInBounds j u) { cls := .type "list", data := .seq its.toArray n } = { cls := .type "list", data := .seq (its.set j u).toArray n } := by
  simp [Obj.mapSeq]
theorem Inv.lst {pins : List (Addr × Obj)} {σ : St} {H : Hp} {s : Shared} {p : Addr} {xs : List V} (I : Inv X pins σ H s) (h : H p = some (.lst xs)) :
    ∃ (its : List Value) (n : Nat), Vals xs its ∧ s.heap.get? p = some { cls := .type "list", data := .seq its.toArray n } ∧ xs.length ≤ sizeLine := by
  obtain ⟨z, its, n, r, e⟩ := I.hok p _ h
  exact ⟨its, n, r, e, z⟩
/-- the list at p is written by an update of its object -/
theorem Inv.lstUpd {pins : List (Addr × Obj)} {σ : St} {H : Hp} {s : Shared} {p : Addr} {xs ys : List V} {its its' : List Value} {n n' : Nat} {f : Obj → Obj} (I : Inv X pins σ H s) (h : H p = some (.lst xs))
    (ho : s.heap.get? p = some { cls := .type "list", data := .seq its.toArray n }) (hf : f { cls := .type "list", data := .seq its.toArray n } = { cls := .type "list", data := .seq its'.toArray n' }) (r : Vals ys its') (hz : ys.length ≤ sizeLine) (t : Nat) :
    Inv X pins σ (upd H p (.lst ys)) { s with heap := s.heap.update p f, toks := t } := by
  have e : (s.heap.update p f).get? p = some { cls := .type "list", data := .seq its'.toArray n' } := by
    rw [Heap.get?_update_self f ho (by rw [hf] <;> rfl), hf]
  refine I.write (x := p) (e := p) (by rw [h]; trivial) (.inl rfl) (fun b u hb q => (Heap.get?_update_other _ _ (Ne.symm hb)).trans q) ⟨_, e⟩ ?_
  exact ⟨hz, its', n', r, e⟩
def rSetL : V → V → V → Hp → (Hp → Prop) → Prop := fun o i v H Q => ∃ p xs k j, o = .ref p ∧ i = .int k ∧ H p = some (.lst xs) ∧ ixN xs.length k = some j ∧ Q (upd H p (.lst (xs.set j v)))
theorem set_list : PSet X rSetL := by
  intro pins s σ H o i v ov iv u Q I ro ri rv h
  obtain ⟨p, xs, k, j, rfl, rfl, hp, hj, q⟩ := h
  cases ro
  obtain ⟨t, rfl⟩ := ri
  obtain ⟨its, n, r, ho, hz⟩ := I.lst hp
  obtain ⟨h1, h2, h3, h4⟩ := ixN_seq hj
  have hl := r.length
  have hn := line63
  have I' : Inv X pins σ (upd H p (.lst (xs.set j v))) { s with heap := s.heap.update p (Obj.mapSeq (·.setIfInBounds j u)) } :=
    I.lstUpd hp ho (mapSeq_set its n j u) (r.set rv j) (by rw [List.length_set]; exact hz) s.toks
  by_cases h0 : 0 ≤ k
  · have hk : k.toNat = j := by
      rw [seqIndex_of h0 h4] at h1
      exact Option.some.inj h1
    exact PySem.W.ki_setAt ho h0 (by omega) (by rw [List.size_toArray, ← hl]; exact h4) (by rw [hk]; exact ⟨_, I', q⟩)
  · have hk : (k + (its.toArray.size : Int)).toNat = j := by
      rw [seqIndex_neg (by omega) h3] at h1
      rw [List.size_toArray, ← hl]
      exact Option.some.inj h1
    exact PySem.W.ki_setBack ho (by omega) (by rw [List.size_toArray, ← hl]; exact h3) (by omega) (by rw [hk]; exact ⟨_, I', q⟩)

/-! ### slices -/
theorem slice_bounds (lo hi : Option Int) (n : Nat) : (sliceBounds lo hi none n).1 = ((HT.sIx n 0 lo : Nat) : Int) ∧ (sliceBounds lo hi none n).2.1 = ((HT.sIx n n hi : Nat) : Int) ∧ (sliceBounds lo hi none n).2.2 = 1 := by
  refine ⟨?_, ?_, rfl⟩
  · cases lo with
    | none => simp [sliceBounds, HT.sIx]
    | some i =>
      simp only [sliceBounds, HT.sIx, Option.getD_none, show (1 : Int) > 0 by decide, if_true]
      by_cases h : i < 0
      · simp only [h, if_true] <;> omega
      · simp only [h, if_false] <;> omega
  · cases hi with
    | none => simp [sliceBounds, HT.sIx]
    | some i =>
      simp only [sliceBounds, HT.sIx, Option.getD_none, show (1 : Int) > 0 by decide, if_true]
      by_cases h : i < 0
      · simp only [h, if_true] <;> omega
      · simp only [h, if_false] <;> omega
theorem slicePick_cut (its : List Value) (lo hi : Option Int) : slicePick its.toArray lo hi none = ((its.drop (HT.sIx its.length 0 lo)).take (HT.sIx its.length its.length hi - HT.sIx its.length 0 lo)).toArray := by
  obtain ⟨h1, h2, h3⟩ := slice_bounds lo hi its.toArray.size
  unfold slicePick
  rw [h1, h2, h3]
  simp only [sliceRange_one, pick_run, List.size_toArray] <;> rfl
/-- xs[lo:hi] of a list: a new list -/
def rSlL (K : PySem.W.Frag) : V → Option Int → Option Int → Hp → VK → Prop := fun x lo hi H Q => ∃ a xs, x = .ref a ∧ SqL K H a xs ∧ ∀ p, H p = none → Q (.ref p) (upd H p (.lst (cutV xs lo hi)))
theorem sl_list : SlR X (rSlL X.K) := by
  intro pins s σ H x v vl vu lo hi sl Q I rx hs pl pu h
  obtain ⟨a, xs, rfl, hx, q⟩ := h
  cases rx
  obtain ⟨its, r, ht, hz⟩ := I.list hx
  have hlen := r.length
  refine ⟨"list", _, slot_list_getitem.lookup, ht.isList.typeIs, ?_⟩
  refine wpAny_getItem_list_slice ht.isList hs pl pu .none (by simp) ?_ (by rw [List.size_toArray] <;> omega)
  rw [slicePick_cut, ← hlen]
  refine ⟨.ref s.heap.objs.size, _, I.laid (t' := s.toks) (o := .lst (cutV xs lo hi)) (fun b ob q => Heap.get?_push_of_some _ q) (Nat.le_refl _) ?_, rfl, q _ (I.hok.fresh (Nat.le_refl _))⟩
  exact ⟨Nat.le_trans (cutV_length xs lo hi) hz, _, 0, (r.drop (HT.sIx xs.length 0 lo)).take (HT.sIx xs.length xs.length hi - HT.sIx xs.length 0 lo), Heap.get?_push_size _ rfl⟩

/-! ### in, not in: flat items -/
def flatV : V → Bool
  | .non => true
  | .bl _ => true
  | .int _ => true
  | .str _ => true
  | _ => false
/-- == of flat values -/
def eqV : V → V → Bool
  | .non, .non => true
  | .bl a, .bl b => a == b
  | .bl a, .int b => (if a then 1 else 0) == b
  | .int a, .bl b => a == (if b then 1 else 0)
  | .int a, .int b => a == b
  | .str a, .str b => a == b
  | _, _ => false
theorem eqAt_V {A : Around} {s : Shared} {y x : V} {u v : Value} (ry : RelV y u) (rx : RelV x v) (fy : flatV y = true) (fx : flatV x = true) : SeqAt.EqAt A s u v (eqV y x) := by
  cases y with
  | non =>
    cases ry
    cases x with
    | non => cases rx; exact SeqAt.EqAt.same _
    | bl b => cases rx; exact SeqAt.EqAt.none_bool b
    | int b => obtain ⟨t, rfl⟩ := rx; exact SeqAt.EqAt.none_int b t
    | str b => obtain ⟨t, rfl⟩ := rx; exact SeqAt.EqAt.none_str b t
    | _ => exact absurd (show false = true from fx) Bool.false_ne_true
  | bl a =>
    cases ry
    cases x with
    | non => cases rx; exact SeqAt.EqAt.bool_none a
    | bl b => cases rx; exact SeqAt.EqAt.bool_bool a b
    | int b => obtain ⟨t, rfl⟩ := rx; exact SeqAt.EqAt.bool_int a b t
    | str b => obtain ⟨t, rfl⟩ := rx; exact SeqAt.EqAt.bool_str a b t
    | _ => exact absurd (show false = true from fx) Bool.false_ne_true
  | int a =>
    obtain ⟨t', rfl⟩ := ry
    cases x with
    | non => cases rx; exact SeqAt.EqAt.int_none a t'
    | bl b => cases rx; exact SeqAt.EqAt.int_bool a t' b
    | int b => obtain ⟨t, rfl⟩ := rx; exact SeqAt.EqAt.int_int a t' b t
    | str b => obtain ⟨t, rfl⟩ := rx; exact SeqAt.EqAt.int_str a t' b t
    | _ => exact absurd (show false = true from fx) Bool.false_ne_true
  | str a =>
    obtain ⟨t', rfl⟩ := ry
    cases x with
    | non => cases rx; exact SeqAt.EqAt.str_none a t'
    | bl b => cases rx; exact SeqAt.EqAt.str_bool a t' b
    | int b => obtain ⟨t, rfl⟩ := rx; exact SeqAt.EqAt.str_int a t' b t
    | str b => obtain ⟨t, rfl⟩ := rx; exact SeqAt.EqAt.str_str a t' b t
    | _ => exact absurd (show false = true from fx) Bool.false_ne_true
  | _ => exact absurd (show false = true from fy) Bool.false_ne_true
/-- the items' answers, read off the values (a value's own answer does not lean on its token) -/
def eqU (x : V) (u : Value) : Bool := match u with
  | .none => eqV .non x
  | .bool b => eqV (.bl b) x
  | .int i _ => eqV (.int i) x
  | .str z _ => eqV (.str z) x
  | _ => false
theorem eqU_of {x y : V} {u : Value} (r : RelV y u) (f : flatV y = true) : eqU x u = eqV y x := by
  cases y with
  | non => cases r; rfl
  | bl b => cases r; rfl
  | int i => obtain ⟨t, rfl⟩ := r; rfl
  | str z => obtain ⟨t, rfl⟩ := r; rfl
  | _ => exact absurd (show false = true from f) Bool.false_ne_true
theorem any_eqU {x : V} : ∀ {xs : List V} {us : List Value}, Vals xs us → xs.all flatV = true → us.any (eqU x) = xs.any fun y => eqV y x
  | _, _, .nil, _ => rfl
  | y :: xs, u :: us, .cons r t, f => by
    rw [List.all_cons, Bool.and_eq_true] at f
    rw [List.any_cons, List.any_cons, eqU_of r f.1, any_eqU t f.2]
theorem mem_eqAt {A : Around} {s : Shared} {x : V} {v : Value} (rx : RelV x v) (fx : flatV x = true) : ∀ {xs : List V} {us : List Value}, Vals xs us → xs.all flatV = true → ∀ u ∈ us, SeqAt.EqAt A s u v (eqU x u)
  | _, _, .nil, _ => fun u hu => by cases hu
  | y :: xs, u :: us, .cons r t, f => fun u' hu => by
    rw [List.all_cons, Bool.and_eq_true] at f
    rcases List.mem_cons.mp hu with rfl | hu
    · rw [eqU_of r f.1]; exact eqAt_V r rx f.1 fx
    · exact mem_eqAt rx fx t f.2 u' hu
def inV (x : V) (xs : List V) : Bool := xs.any fun y => eqV y x
/-- x in a list or tuple of flat items -/
def rIn (K : PySem.W.Frag) (neg : Bool) : R2 := fun x y H Q => ∃ p xs, y = .ref p ∧ (SqL K H p xs ∨ SqT K H p xs) ∧ flatV x = true ∧ xs.all flatV = true ∧ Q (.bl (if neg then !inV x xs else inV x xs)) H
theorem op_in_seq : OpR X (compareOp .In) (rIn X.K false) := by
  intro pins s σ H x y v u Q I rx ry h
  obtain ⟨p, xs, rfl, hq, fx, fs, q⟩ := h
  cases ry
  rcases hq with hq | hq
  · obtain ⟨its, r, pl, hz⟩ := I.list hq
    refine SeqAt.in_listAt (eqU x) pl.isList (fun w hw => mem_eqAt rx fx r fs w (by simpa using hw)) ⟨.bl _, H, I, rfl, ?_⟩
    rw [show its.toArray.any (eqU x) = its.any (eqU x) by simp, any_eqU r fs]
    exact q
  · obtain ⟨its, r, pl, hz⟩ := I.tuple hq
    refine SeqAt.in_tupleAt (eqU x) pl (fun w hw => mem_eqAt rx fx r fs w (by simpa using hw)) ⟨.bl _, H, I, rfl, ?_⟩
    rw [show its.toArray.any (eqU x) = its.any (eqU x) by simp, any_eqU r fs]
    exact q
theorem op_notIn_seq : OpR X (compareOp .NotIn) (rIn X.K true) := by
  intro pins s σ H x y v u Q I rx ry h
  obtain ⟨p, xs, rfl, hq, fx, fs, q⟩ := h
  cases ry
  rcases hq with hq | hq
  · obtain ⟨its, r, pl, hz⟩ := I.list hq
    refine SeqAt.notIn_listAt (eqU x) pl.isList (fun w hw => mem_eqAt rx fx r fs w (by simpa using hw)) ⟨.bl _, H, I, rfl, ?_⟩
    rw [show its.toArray.any (eqU x) = its.any (eqU x) by simp, any_eqU r fs]
    exact q
  · obtain ⟨its, r, pl, hz⟩ := I.tuple hq
    refine SeqAt.notIn_tupleAt (eqU x) pl (fun w hw => mem_eqAt rx fx r fs w (by simpa using hw)) ⟨.bl _, H, I, rfl, ?_⟩
    rw [show its.toArray.any (eqU x) = its.any (eqU x) by simp, any_eqU r fs]
    exact q
theorem op_notIn_str : OpR X (compareOp .NotIn) (fun x y H Q => ∃ i j, x = .str i ∧ y = .str j ∧ Q (.bl (!(!(Builtin.Str.occurrences j i 0 j.length 1).isEmpty))) H) := by
  intro pins s σ H x y v u Q I rx ry h
  obtain ⟨i, j, rfl, rfl, q⟩ := h
  obtain ⟨t, rfl⟩ := rx
  obtain ⟨t', rfl⟩ := ry
  exact notIn_str ⟨.bl _, H, I, rfl, q⟩

/-! ### len, list(x), tuple(x) of any list or tuple that is read -/
theorem call_len_seq : CallR X (.builtin "len") (fun xs H Q => ∃ p ys, xs = [.ref p] ∧ (SqL X.K H p ys ∨ SqT X.K H p ys) ∧ Q (.int ys.length) H) := by
  intro pins s σ H xs us Q I r h
  obtain ⟨p, ys, rfl, hq, q⟩ := h
  obtain ⟨u, rfl, rx⟩ := vals1 r
  cases rx
  have hn := line63
  rcases hq with hq | hq
  · obtain ⟨its, r', pl, hz⟩ := I.list hq
    have hlen := r'.length
    exact Calls.call_len_list pl.isList (by simp only [List.size_toArray] <;> omega) ⟨.int ys.length, H, I.tok _, ⟨s.toks + 1, by rw [List.size_toArray, hlen]⟩, q⟩
  · obtain ⟨its, r', pl, hz⟩ := I.tuple hq
    have hlen := r'.length
    exact len_tuple pl (by simp only [List.size_toArray] <;> omega) ⟨.int ys.length, H, I.tok _, ⟨s.toks + 1, by rw [List.size_toArray, hlen]⟩, q⟩
theorem call_len_str : CallR X (.builtin "len") (fun xs H Q => ∃ z, xs = [.str z] ∧ z.length ≤ sizeLine ∧ Q (.int z.length) H) := by
  intro pins s σ H xs us Q I r h
  obtain ⟨z, rfl, hz, q⟩ := h
  obtain ⟨u, rfl, t, rfl⟩ := vals1 r
  have hn := line63
  exact len_str (by omega) ⟨.int z.length, H, I.tok _, ⟨_, rfl⟩, q⟩
theorem CallR.or {f : Value} {r r' : List V → Hp → VK → Prop} (h : CallR X f r) (h' : CallR X f r') : CallR X f (fun xs H Q => r xs H Q ∨ r' xs H Q) := by
  intro pins s σ H xs us Q I rs q
  rcases q with q | q
  · exact h pins s σ H xs us Q I rs q
  · exact h' pins s σ H xs us Q I rs q
theorem call_list_of : CallR X (.type "list") (fun xs H Q => ∃ p ys, xs = [.ref p] ∧ (SqL X.K H p ys ∨ SqT X.K H p ys) ∧ ∀ l, H l = none → Q (.ref l) (upd H l (.lst ys))) := by
  intro pins s σ H xs us Q I r h
  obtain ⟨p, ys, rfl, hq, q⟩ := h
  obtain ⟨u, rfl, rx⟩ := vals1 r
  cases rx
  have fin : ∀ (its : List Value), Vals ys its → ys.length ≤ sizeLine → ∀ (h' : Heap) (c' : Nat), (∀ b o', s.heap.get? b = some o' → h'.get? b = some o') →
      h'.get? s.heap.objs.size = some { cls := .type "list", dict := none, data := .seq its.toArray c', slots := #[] } → EP X pins σ Q (.ref s.heap.objs.size) { s with heap := h' } := fun its r' hz h' c' kp e =>
    ⟨.ref s.heap.objs.size, _, I.laid (t' := s.toks) kp (Nat.le_refl _) (show ObjOk X.prog X.w _ h' _ (.lst ys) from ⟨hz, its, c', r', e⟩), rfl, q _ (I.hok.fresh (Nat.le_refl _))⟩
  rcases hq with hq | hq
  · obtain ⟨its, r', pl, hz⟩ := I.list hq
    have hlen := r'.length
    obtain ⟨o, ho, hc, n, hd⟩ := pl.isList
    exact call_list_seq p (.inl rfl) ho hc hd (fun h' c' kp e => fin its r' hz h' c' kp e) (by simp only [List.size_toArray] <;> omega)
  · obtain ⟨its, r', pl, hz⟩ := I.tuple hq
    have hlen := r'.length
    obtain ⟨o, ho, hc, n, hd⟩ := pl
    exact call_list_seq p (.inr rfl) ho hc hd (fun h' c' kp e => fin its r' hz h' c' kp e) (by simp only [List.size_toArray] <;> omega)
theorem call_tuple_of : CallR X (.type "tuple") (fun xs H Q => ∃ p ys, xs = [.ref p] ∧ ((SqL X.K H p ys ∧ ∀ l, H l = none → Q (.ref l) (upd H l (.tup ys))) ∨ (SqT X.K H p ys ∧ Q (.ref p) H))) := by
  intro pins s σ H xs us Q I r h
  obtain ⟨p, ys, rfl, h⟩ := h
  obtain ⟨u, rfl, rx⟩ := vals1 r
  cases rx
  rcases h with ⟨hq, q⟩ | ⟨hq, q⟩
  · obtain ⟨its, r', pl, hz⟩ := I.list hq
    have hlen := r'.length
    refine call_tuple_list pl.isList (fun h' kp => ?_) (by simp only [List.size_toArray] <;> omega)
    have I1 : Inv X pins σ H { s with heap := h' } := I.kept (t' := s.toks) kp
    have I2 : Inv X pins σ (upd H h'.objs.size (.tup ys)) { s with heap := h'.push { cls := .type "tuple", data := .seq its.toArray } } :=
      I1.laid (t' := s.toks) (fun b o e => Heap.get?_push_of_some _ e) (Nat.le_refl _) (show ObjOk X.prog X.w _ _ _ (.tup ys) from ⟨hz, its, r', IsTup.new _ _⟩)
    exact ⟨.ref h'.objs.size, _, I2, rfl, q _ (I1.hok.fresh (Nat.le_refl _))⟩
  · obtain ⟨its, r', pl, hz⟩ := I.tuple hq
    exact call_tuple_same pl ⟨.ref p, H, I, rfl, q⟩

/-! ### the call of a builtin's method: o.m(..) -/
/-- the value is of that builtin type -/
def tyV (K : PySem.W.Frag) (T : String) (x : V) (H : Hp) : Prop := match x with
  | .str _ => T = "str"
  | .int _ => T = "int"
  | .ref p => (T = "list" ∧ ∃ xs, SqL K H p xs) ∨ (T = "tuple" ∧ ∃ o, K.lookup p = some o ∧ o.cls = .type "tuple" ∧ o.dict = none) ∨
      (T = "dict" ∧ ((∃ kvs, H p = some (.dK kvs)) ∨ ∃ kvs, H p = some (.dT kvs))) ∨ (T = "set" ∧ ∃ S n, H p = some (.set S n))
  | _ => False
theorem tyV_is {pins : List (Addr × Obj)} {σ : St} {H : Hp} {s : Shared} {T : String} {x : V} {v : Value} (I : Inv X pins σ H s) (r : RelV x v) (ty : tyV X.K T x H) :
    s.TypeIs v T ∧ ∀ a, v = .ref a → ∃ ob, s.heap.get? a = some ob ∧ ob.dict = none := by
  cases x with
  | str z =>
    obtain ⟨t, rfl⟩ := r
    cases (show T = "str" from ty)
    exact ⟨typeIs_str s z t, fun _ e => nomatch e⟩
  | int i =>
    obtain ⟨t, rfl⟩ := r
    cases (show T = "int" from ty)
    exact ⟨typeIs_int s i t, fun _ e => nomatch e⟩
  | ref p =>
    cases r
    rcases ty with ⟨rfl, xs, hq⟩ | ⟨rfl, o, hk, hc, hd⟩ | ⟨rfl, hk⟩ | ⟨rfl, S, n, hk⟩
    · obtain ⟨its, _, pl, _⟩ := I.list hq
      refine ⟨pl.isList.typeIs, fun a e => ?_⟩
      cases e
      obtain ⟨o, n, e, c, hd, _⟩ := pl
      exact ⟨o, e, hd⟩
    · refine ⟨⟨o, I.kIn p o hk, hc⟩, fun a e => ?_⟩
      cases e
      exact ⟨o, I.kIn _ o hk, hd⟩
    · have z : ∃ o, s.heap.get? p = some o ∧ o.ExactDict := by
        rcases hk with ⟨kvs, hk⟩ | ⟨kvs, hk⟩
        · obtain ⟨_, _, _, _, o, _, _, e, ex, _⟩ := I.hok p _ hk
          exact ⟨o, e, ex⟩
        · obtain ⟨_, _, _, _, o, _, _, e, ex, _⟩ := I.hok p _ hk
          exact ⟨o, e, ex⟩
      obtain ⟨o, e, ex⟩ := z
      refine ⟨⟨o, e, ex.1⟩, fun a e2 => ?_⟩
      cases e2
      exact ⟨o, e, ex.2.1⟩
    · obtain ⟨o, _, _, _, e, ex, _⟩ := I.hok p _ hk
      refine ⟨⟨o, e, ex.1⟩, fun a e2 => ?_⟩
      cases e2
      exact ⟨o, e, ex.2.1⟩
  | _ => exact False.elim ty
def tBM0 (K : PySem.W.Frag) (T : String) (r : V → List V → Hp → VK → Prop) (to : TE) : TE := fun σ H Q => to σ H fun x H1 => tyV K T x H1 ∧ r x [] H1 Q
def tBM (K : PySem.W.Frag) (T : String) (r : V → List V → Hp → VK → Prop) (to : TE) (t : TA) : TE := fun σ H Q => to σ H fun x H1 => tyV K T x H1 ∧ t σ H1 fun xs H2 => r x xs H2 Q
variable {o e : Expr} {es : List Expr} {to : TE} {t : TA} {name : Str} {apos cpos : Pos} {T id : String} {r : V → List V → Hp → VK → Prop}
theorem pe_bm0 (pa : PlainAttrs T) (slot : Slot T name id) (hty : typeOf (.builtin id) = pure (.type "method_descriptor")) (hm : MtR X id r) (ho : PE X o to)
    (hbase : attributeBase o name X.env (eval o X.env) = eval o X.env := by rfl) (hline : (apos.endLine == cpos.line) = true := by rfl) : PE X (.Call (.Attribute o name apos) [] [] cpos) (tBM0 X.K T r to) := by
  intro pins s σ H Q I h
  refine wpAny_Call_method0_late hbase hline (thn (ho pins s σ H _ I h) fun v s1 ⟨x, H1, I1, r1, ty, q1⟩ => ?_)
  obtain ⟨h1, h2⟩ := tyV_is I1 r1 ty
  exact ⟨T, id, pa, slot, hty, h1, h2, Calls.callWith_builtin rfl (PySem.evalArgs_none (hm pins s1 σ H1 x [] v [] Q I1 r1 .nil q1))⟩
theorem pe_bm (pa : PlainAttrs T) (slot : Slot T name id) (hty : typeOf (.builtin id) = pure (.type "method_descriptor")) (hm : MtR X id r) (ho : PE X o to) (ha : PA X (e :: es) t)
    (hbase : attributeBase o name X.env (eval o X.env) = eval o X.env := by rfl)
    (hfew : ((backTo cpos (starEach (e :: es) X.env)).all (fun x => !x.1) && (backToKw cpos (keywordEach [] X.env)).all (fun x => x.1.isSome)
      && decide ((e :: es).length + ([] : List Keyword).length + (if ([] : List Keyword).isEmpty then 0 else 1) < 30)) = true := by rfl)
    (hline : (apos.endLine == cpos.line) = true := by rfl) (hs : starEach (e :: es) X.env = (false, eval e X.env) :: starEach es X.env := by rfl) (hplain : (backTo cpos (starEach es X.env)).any (·.1) = false := by rfl) :
    PE X (.Call (.Attribute o name apos) (e :: es) [] cpos) (tBM X.K T r to t) := by
  intro pins s σ H Q I h
  refine wpAny_Call_method_late hbase hfew hline rfl (thn (ho pins s σ H _ I h) fun v s1 ⟨x, H1, I1, r1, ty, q1⟩ => ?_)
  obtain ⟨h1, h2⟩ := tyV_is I1 r1 ty
  refine ⟨T, id, pa, slot, hty, h1, h2, ?_⟩
  have hA := ha cpos pins s1 σ H1 _ I1 q1
  rw [hs] at hA ⊢
  refine Calls.callWith_builtin (by show (false || (backTo cpos (starEach es X.env)).any (·.1)) = false; rw [hplain] <;> rfl) (Calls.evalArgs_plain ?_)
  exact thn hA fun us s2 ⟨vs, H2, I2, r2, q2⟩ => hm pins s2 σ H2 x vs v us Q I2 r1 r2 q2
/- xs.append(e), list.index on a module's tuple .. are MtR facts of 06m -/
end
end L2

namespace L2
open PySem PySem.Spec PyProof.Rows

def MtM (X : Cx) (id : String) (r : V → List V → Hp → VK → Prop) : Prop :=
  ∀ (pins : List (Addr × Obj)) (s : Shared) (σ : St) (H : Hp) (x : V) (xs : List V) (v : Value) (us : List Value) (Q : VK), Inv X pins σ H s → RelV x v → Vals xs us → r x xs H Q →
    wpAny (model X.prog X.w) X.A (call (.builtin id) (v :: us)) (EP X pins σ Q) X.xe s

/-! ### lists of values -/
theorem Vals.one : ∀ {x : V} {us : List Value}, Vals [x] us → ∃ u, us = [u] ∧ RelV x u
  | _, _, .cons r .nil => ⟨_, rfl, r⟩
theorem Vals.two : ∀ {x y : V} {us : List Value}, Vals [x, y] us → ∃ u v, us = [u, v] ∧ RelV x u ∧ RelV y v
  | _, _, _, .cons r (.cons q .nil) => ⟨_, _, rfl, r, q⟩
theorem Vals.zero : ∀ {us : List Value}, Vals [] us → us = []
  | _, .nil => rfl
theorem Vals.dropLast {xs : List V} {us : List Value} (h : Vals xs us) : Vals xs.dropLast us.dropLast := by
  induction h with
  | nil => exact .nil
  | cons r t ih =>
    cases t with
    | nil => exact .nil
    | cons q t' => exact .cons r ih
theorem Vals.eraseIdx : ∀ {xs : List V} {us : List Value} (i : Nat), Vals xs us → Vals (xs.eraseIdx i) (us.eraseIdx i)
  | _, _, _, .nil => .nil
  | _, _, 0, .cons _ t => t
  | _, _, i + 1, .cons r t => .cons r (Vals.eraseIdx i t)
theorem Vals.reverse {xs : List V} {us : List Value} (h : Vals xs us) : Vals xs.reverse us.reverse := by
  induction h with
  | nil => exact .nil
  | cons r t ih => rw [List.reverse_cons, List.reverse_cons]; exact Vals.append ih (.cons r .nil)
theorem Vals.rep {xs : List V} {us : List Value} (h : Vals xs us) : ∀ k : Nat, Vals (List.replicate k xs).flatten (List.replicate k us).flatten
  | 0 => .nil
  | k + 1 => by
    rw [List.replicate_succ, List.replicate_succ, List.flatten_cons, List.flatten_cons]
    exact Vals.append h (Vals.rep h k)
theorem erase_last {α : Type} (l : List α) : l.eraseIdx (l.length - 1) = l.dropLast := by
  induction l with
  | nil => rfl
  | cons a r ih =>
    cases r with
    | nil => rfl
    | cons b r =>
      have e : (a :: b :: r).length - 1 = ((b :: r).length - 1) + 1 := by
        have h1 : (a :: b :: r).length = r.length + 2 := rfl
        have h2 : (b :: r).length = r.length + 1 := rfl
        omega
      rw [e, List.eraseIdx_cons_succ, ih]
      all_goals rfl
theorem len_erase {α : Type} : ∀ (l : List α) (i : Nat), (l.eraseIdx i).length ≤ l.length
  | [], _ => Nat.le_refl _
  | _ :: _, 0 => Nat.le_succ _
  | _ :: r, i + 1 => Nat.succ_le_succ (len_erase r i)
theorem foldl_rep (its : List Value) : ∀ (k : Nat) (acc : List Value),
    List.foldl (fun x1 x2 => x1 ++ x2) acc.toArray (List.replicate k its.toArray) = (acc ++ (List.replicate k its).flatten).toArray
  | 0, acc => by simp
  | k + 1, acc => by
    have e : acc.toArray ++ its.toArray = (acc ++ its).toArray := by simp
    have e2 : (acc ++ its) ++ (List.replicate k its).flatten = acc ++ (List.replicate (k + 1) its).flatten := by
      rw [List.replicate_succ, List.flatten_cons, List.append_assoc]
    rw [← e2, ← foldl_rep its k (acc ++ its), ← e, List.replicate_succ, List.foldl_cons]

section
variable {X : Cx} {pins : List (Addr × Obj)} {σ : St} {H : Hp} {s : Shared} {l b : Addr} {xs ys zs : List V}

/-! ### the two steps: a tracked list is rewritten, a new list is laid -/
theorem Inv.lset {its its' : List Value} {n : Nat} {f : Array Value → Array Value} {t' : Nat} (I : Inv X pins σ H s) (hH : H l = some (.lst xs))
    (e : s.heap.get? l = some { cls := .type "list", data := .seq its.toArray n }) (hf : f its.toArray = its'.toArray) (hv : Vals ys its') (hz : ys.length ≤ sizeLine) :
    Inv X pins σ (upd H l (.lst ys)) { s with heap := s.heap.update l (Obj.mapSeq f), toks := t' } := by
  have q := PySem.IsL.update e f
  rw [hf] at q
  refine I.write (x := l) (e := l) (by rw [hH]; exact trivial) (.inl rfl) (fun b' u hb hu => (Heap.get?_update_other s.heap (Obj.mapSeq f) (Ne.symm hb)).trans hu) ⟨_, q⟩ ?_
  exact ⟨hz, its', _, hv, q⟩
theorem Inv.lnew {its : List Value} {t' : Nat} (I : Inv X pins σ H s) (hv : Vals ys its) (hz : ys.length ≤ sizeLine) :
    Inv X pins σ (upd H s.heap.objs.size (.lst ys)) { s with heap := s.heap.push { cls := .type "list", data := .seq its.toArray }, toks := t' } :=
  I.laid (fun _ _ q => Heap.get?_push_of_some _ q) (Nat.le_refl _) ⟨hz, its, 0, hv, Heap.get?_push_size _ rfl⟩
theorem Inv.fresh (I : Inv X pins σ H s) : H s.heap.objs.size = none := I.hok.fresh (Nat.le_refl _)
theorem Inv.lstM (I : Inv X pins σ H s) (hH : H l = some (.lst xs)) : xs.length ≤ sizeLine ∧ ∃ (its : List Value) (n : Nat), Vals xs its ∧ xs.length = its.length ∧ s.heap.get? l = some { cls := .type "list", data := .seq its.toArray n } := by
  obtain ⟨z, its, n, r, e⟩ := I.hok l _ hH
  exact ⟨z, its, n, r, r.length, e⟩

theorem notLongL {n : Nat} (h : n ≤ sizeLine) : Builtin.List.listTooLong n = false := by
  unfold Builtin.List.listTooLong
  exact decide_eq_false (by omega)
end

section
variable {X : Cx}

/-! ### methods -/
def rAppend : V → List V → Hp → VK → Prop := fun x vs H Q => ∃ l xs y, x = .ref l ∧ vs = [y] ∧ H l = some (.lst xs) ∧ xs.length < sizeLine ∧ Q .non (upd H l (.lst (xs ++ [y])))
theorem mt_append : MtM X "list.append" rAppend := by
  intro pins s σ H x vs v us Q I rx rv h
  obtain ⟨l, xs, y, rfl, rfl, hH, hz, q⟩ := h
  cases rx
  obtain ⟨u, rfl, ru⟩ := rv.one
  obtain ⟨z, its, n, r, hl, e⟩ := I.lstM hH
  refine call_meets F.slot_list_append ⟨_, e, rfl⟩ F.entry_list_append (F.args_list_append_2 _ _) (PySem.list_append l its.toArray n u (by rw [List.size_toArray]; omega)) ⟨e, ?_⟩
  refine ⟨.non, _, I.lset (its' := its ++ [u]) hH e (by simp) (r.append (.cons ru .nil)) ?_, rfl, q⟩
  rw [List.length_append, List.length_singleton]
  omega

def rExtend : V → List V → Hp → VK → Prop := fun x vs H Q => ∃ l b xs zs, x = .ref l ∧ vs = [.ref b] ∧ H l = some (.lst xs) ∧ H b = some (.lst zs) ∧ xs.length + zs.length ≤ sizeLine ∧ Q .non (upd H l (.lst (xs ++ zs)))
theorem mt_extend : MtM X "list.extend" rExtend := by
  intro pins s σ H x vs v us Q I rx rv h
  obtain ⟨l, b, xs, zs, rfl, rfl, hH, hB, hz, q⟩ := h
  cases rx
  obtain ⟨u, rfl, ru⟩ := rv.one
  cases ru
  obtain ⟨z, its, n, r, hl, e⟩ := I.lstM hH
  obtain ⟨z2, its2, n2, r2, hl2, e2⟩ := I.lstM hB
  have hsz : its.toArray.size + its2.toArray.size ≤ sizeLine := by rw [List.size_toArray, List.size_toArray]; omega
  have hlong : ¬ (!its.toArray.isEmpty && Builtin.List.listTooLong (its.toArray.size + its2.toArray.size)) = true := by
    rw [notLongL hsz, Bool.and_false]
    exact Bool.false_ne_true
  refine call_meets F.slot_list_extend ⟨_, e, rfl⟩ F.entry_list_extend (F.args_list_extend_2 _ _)
    (AutoSeq1.list_extend_list_list_0 l its.toArray n b its2.toArray n2 hlong (by rw [List.size_toArray]; omega) (by omega)) ⟨e, e2, ?_⟩
  refine ⟨.non, _, I.lset (its' := its ++ its2) hH e (by simp) (r.append r2) ?_, rfl, q⟩
  rw [List.length_append]
  omega

def rPop : V → List V → Hp → VK → Prop := fun x vs H Q => ∃ l xs y, x = .ref l ∧ vs = [] ∧ H l = some (.lst xs) ∧ xs[xs.length - 1]? = some y ∧ Q y (upd H l (.lst xs.dropLast))
theorem mt_pop : MtM X "list.pop" rPop := by
  intro pins s σ H x vs v us Q I rx rv h
  obtain ⟨l, xs, y, rfl, rfl, hH, hy, q⟩ := h
  cases rx
  have hus := rv.zero
  subst hus
  obtain ⟨z, its, n, r, hl, e⟩ := I.lstM hH
  obtain ⟨u, hu, ru⟩ := r.get hy
  have hy' : its.toArray[its.toArray.size - 1]? = some u := by
    show its.toArray[its.length - 1]? = some u
    rw [← Array.getElem?_toList, ← hl]
    exact hu
  refine call_meets F.slot_list_pop ⟨_, e, rfl⟩ F.entry_list_pop (F.args_list_pop_1 _) (MeetsSeq.list_pop_last l its.toArray n u hy' (by rw [List.size_toArray]; omega)) ⟨e, ?_⟩
  refine ⟨y, _, I.lset (its' := its.dropLast) hH e ?_ r.dropLast ?_, ru, q⟩
  · show its.toArray.eraseIdxIfInBounds (its.toArray.size - 1) = its.dropLast.toArray
    rw [List.size_toArray, List.eraseIdxIfInBounds_toArray, erase_last]
  · rw [List.length_dropLast]
    omega

def rPopAt : V → List V → Hp → VK → Prop := fun x vs H Q => ∃ l xs i k y, x = .ref l ∧ vs = [.int i] ∧ H l = some (.lst xs) ∧ -(2 ^ 63) ≤ i ∧ i < 2 ^ 63 ∧ seqIndex? i xs.length = some k ∧ xs[k]? = some y ∧ Q y (upd H l (.lst (xs.eraseIdx k)))
theorem mt_popAt : MtM X "list.pop" rPopAt := by
  intro pins s σ H x vs v us Q I rx rv h
  obtain ⟨l, xs, i, k, y, rfl, rfl, hH, h1, h2, hk, hy, q⟩ := h
  cases rx
  obtain ⟨u, rfl, ru⟩ := rv.one
  obtain ⟨t, rfl⟩ := ru
  obtain ⟨z, its, n, r, hl, e⟩ := I.lstM hH
  obtain ⟨w, hw, rw'⟩ := r.get hy
  refine call_meets F.slot_list_pop ⟨_, e, rfl⟩ F.entry_list_pop (F.args_list_pop_2 _ _)
    (MeetsSeq.list_pop_at l its.toArray n i t k w (fitsIndex_both h1 h2) (by rw [List.size_toArray, ← hl]; exact hk) (by rw [← Array.getElem?_toList]; exact hw) (by rw [List.size_toArray]; omega)) ⟨e, ?_⟩
  refine ⟨y, _, I.lset (its' := its.eraseIdx k) hH e ?_ (r.eraseIdx k) ?_, rw', q⟩
  · show its.toArray.eraseIdxIfInBounds k = (its.eraseIdx k).toArray
    rw [List.eraseIdxIfInBounds_toArray]
  · have := len_erase xs k
    omega

def rReverse : V → List V → Hp → VK → Prop := fun x vs H Q => ∃ l xs, x = .ref l ∧ vs = [] ∧ H l = some (.lst xs) ∧ Q .non (upd H l (.lst xs.reverse))
theorem mt_reverse : MtM X "list.reverse" rReverse := by
  intro pins s σ H x vs v us Q I rx rv h
  obtain ⟨l, xs, rfl, rfl, hH, q⟩ := h
  cases rx
  have hus := rv.zero
  subst hus
  obtain ⟨z, its, n, r, hl, e⟩ := I.lstM hH
  refine call_meets F.slot_list_reverse ⟨_, e, rfl⟩ F.entry_list_reverse (F.args_list_reverse_1 _) (AutoSeq1.list_reverse_list_0 l its.toArray n (by rw [List.size_toArray]; omega)) ⟨e, ?_⟩
  refine ⟨.non, _, I.lset (its' := its.reverse) hH e (by simp) r.reverse ?_, rfl, q⟩
  rw [List.length_reverse]
  omega

def rClear : V → List V → Hp → VK → Prop := fun x vs H Q => ∃ l xs, x = .ref l ∧ vs = [] ∧ H l = some (.lst xs) ∧ Q .non (upd H l (.lst []))
theorem mt_clear : MtM X "list.clear" rClear := by
  intro pins s σ H x vs v us Q I rx rv h
  obtain ⟨l, xs, rfl, rfl, hH, q⟩ := h
  cases rx
  have hus := rv.zero
  subst hus
  obtain ⟨z, its, n, r, hl, e⟩ := I.lstM hH
  refine call_meets F.slot_list_clear ⟨_, e, rfl⟩ F.entry_list_clear (F.args_list_clear_1 _) (AutoSeq1.list_clear_list_0 l its.toArray n (by rw [List.size_toArray]; omega)) ⟨e, ?_⟩
  exact ⟨.non, _, I.lset (its' := []) (ys := []) hH e rfl .nil (Nat.zero_le _), rfl, q⟩

/-! ### list + list, list += list, list * int -/
def rCat : R2 := fun x y H Q => ∃ l b xs zs, x = .ref l ∧ y = .ref b ∧ H l = some (.lst xs) ∧ H b = some (.lst zs) ∧ xs.length + zs.length ≤ sizeLine ∧ ∀ p, H p = none → Q (.ref p) (upd H p (.lst (xs ++ zs)))
theorem op_cat : OpR X (binaryOp .Add) rCat := by
  intro pins s σ H x y v u Q I rx ry h
  obtain ⟨l, b, xs, zs, rfl, rfl, hH, hB, hz, q⟩ := h
  cases rx
  cases ry
  obtain ⟨z, its, n, r, hl, e⟩ := I.lstM hH
  obtain ⟨z2, its2, n2, r2, hl2, e2⟩ := I.lstM hB
  refine PySem.P.add_list e e2 ?_ (by rw [List.size_toArray, List.size_toArray]; omega)
  have ea : its.toArray ++ its2.toArray = (its ++ its2).toArray := by simp
  rw [ea]
  exact ⟨.ref _, _, I.lnew (t' := s.toks) (r.append r2) (by rw [List.length_append]; omega), rfl, q _ I.fresh⟩
/-- a list times an int (a negative one is nothing) -/
def rRep : R2 := fun x y H Q => ∃ l k xs, x = .ref l ∧ y = .int k ∧ H l = some (.lst xs) ∧ -(2 ^ 63) ≤ k ∧ k < 2 ^ 63 ∧ xs.length * k.toNat ≤ sizeLine ∧
  ∀ p, H p = none → Q (.ref p) (upd H p (.lst (List.replicate k.toNat xs).flatten))
theorem len_rep {α : Type} (xs : List α) (k : Nat) : (List.replicate k xs).flatten.length = k * xs.length := by
  induction k with
  | zero => simp
  | succ k ih => rw [List.replicate_succ, List.flatten_cons, List.length_append, ih, Nat.succ_mul, Nat.add_comm]
theorem op_rep : OpR X (binaryOp .Mult) rRep := by
  intro pins s σ H x y v u Q I rx ry h
  obtain ⟨l, k, xs, rfl, rfl, hH, h1, h2, hz, q⟩ := h
  cases rx
  obtain ⟨t, rfl⟩ := ry
  obtain ⟨z, its, n, r, hl, e⟩ := I.lstM hH
  have hlen : its.toArray.size * k.toNat ≤ sizeLine := by rw [List.size_toArray, ← hl]; exact hz
  have hcap : ¬ its.toArray.size * k.toNat > (2 ^ 63 - 1) / 8 := by
    have : (sizeLine : Nat) ≤ (2 ^ 63 - 1) / 8 := by decide
    omega
  have hfit : ¬ (!Builtin.List.listFitsIndex k) = true := by
    rw [fitsIndex_both h1 h2]
    exact Bool.false_ne_true
  have hlong : ¬ Builtin.List.listTooLong (its.toArray.size * k.toNat) = true := by
    rw [notLongL hlen]
    exact Bool.false_ne_true
  have hnew : List.foldl (fun x1 x2 => x1 ++ x2) #[] (List.replicate (if its.toArray.isEmpty = true then 0 else k.toNat) its.toArray) = (List.replicate k.toNat its).flatten.toArray := by
    have f0 : ∀ m : Nat, List.foldl (fun x1 x2 => x1 ++ x2) #[] (List.replicate m its.toArray) = (List.replicate m its).flatten.toArray := fun m => by
      have := foldl_rep its m []
      rw [List.nil_append] at this
      exact this
    rw [f0]
    cases its with
    | nil => simp
    | cons a r' => rw [if_neg (by simp)]
  refine wpAny_binaryOp_repeat_ref (T := "list") (U := "int") (by decide) ⟨_, e, rfl⟩ (fun s' => typeIs_int s' k t) noFill_list_mul F.fills_int_mul F.slot_int_rmul repeat_list F.slot_int_index.lookup
    (call_meets F.slot_int_rmul (typeIs_int s k t) F.entry_int_rmul (F.args_int_rmul_2 _ _) (int___rmul___int_list k t l its.toArray n)
      ⟨e, rfl, ⟨_, e, rfl⟩, call_meets F.slot_list_mul ⟨_, e, rfl⟩ F.entry_list_mul (F.args_list_mul_2 _ _) (AutoListH.list___mul___list_int_3 l its.toArray n k t hfit hcap hlong) ⟨e, ?_⟩⟩)
  rw [hnew]
  exact ⟨.ref _, _, I.lnew (t' := s.toks) (r.rep k.toNat) (by rw [len_rep, Nat.mul_comm]; exact hz), rfl, q _ I.fresh⟩

/-! ### del xs[i] -/
theorem del_list {pins : List (Addr × Obj)} {s : Shared} {σ : St} {H : Hp} {l : Addr} {xs : List V} {i : Int} {t : Tok} {k : Nat} {Q : Unit → Shared → Prop} (I : Inv X pins σ H s) (hH : H l = some (.lst xs))
    (h1 : -(2 ^ 63) ≤ i) (h2 : i < 2 ^ 63) (hk : seqIndex? i xs.length = some k) (h : ∀ s', Inv X pins σ (upd H l (.lst (xs.eraseIdx k))) s' → Q () s') :
    wpAny (model X.prog X.w) X.A (delItem (.ref l) (.int i t)) Q X.xe s := by
  obtain ⟨z, its, n, r, hl, e⟩ := I.lstM hH
  refine PySem.P.delItem_list (k := k) e (fitsIndex_both h1 h2) (by rw [List.size_toArray, ← hl]; exact hk) (h _ ?_) (by rw [List.size_toArray]; omega)
  refine I.lset (its' := its.eraseIdx k) (t' := s.toks) hH e ?_ (r.eraseIdx k) ?_
  · show its.toArray.eraseIdxIfInBounds k = (its.eraseIdx k).toArray
    rw [List.eraseIdxIfInBounds_toArray]
  · have := len_erase xs k
    omega
end

/-! ### xs[a:b] = ys -/
section
variable {prog : Program} {w : World} {A : Around} {E : Value → Shared → Prop} {s : Shared}
theorem splice_eq (its its2 : List Value) (a c : Nat) : its.toArray.extract 0 a ++ its2.toArray ++ its.toArray.extract c its.toArray.size = (its.take a ++ its2 ++ its.drop c).toArray := by
  apply Array.toList_inj.mp
  first
    | (simp
       exact List.take_of_length_le (by simp))
    | simp [List.take_of_length_le]
    | simp
theorem bounds_run {a c n : Nat} (hac : a ≤ c) (hc : c ≤ n) : sliceBounds (some (a : Int)) (some (c : Int)) none n = ((a : Int), (c : Int), 1) := by
  simp only [sliceBounds, Option.getD_none]
  have h1 : ¬ ((a : Int) < 0) := by omega
  have h2 : ¬ ((c : Int) < 0) := by omega
  simp only [h1, h2, if_false, show (1 : Int) > 0 by decide, if_true]
  congr 1
  · omega
  · congr 1; omega
set_option maxRecDepth 100000 in
/-- list.__setitem__ with a slice of step one and another list -/
theorem setItem_slice {l b sl : Addr} {items new : Array Value} {n n2 : Nat} {vl vu : Value} {a c : Nat} {Q : Unit → Shared → Prop}
    (e : s.heap.get? l = some { cls := .type "list", data := .seq items n }) (e2 : s.heap.get? b = some { cls := .type "list", data := .seq new n2 }) (hne : l ≠ b)
    (hs : s.heap.IsSliceOf sl vl vu .none) (pl : IsPart vl (some (a : Int))) (pu : IsPart vu (some (c : Int))) (hac : a ≤ c) (hc : c ≤ items.size)
    (hsz : items.size + new.size ≤ sizeLine) (h : Q () { s with heap := s.heap.update l (Obj.mapSeq fun xs => xs.extract 0 a ++ new ++ xs.extract c xs.size) }) :
    wpAny (model prog w) A (setItem (.ref l) (.ref sl) (.ref b)) Q E s := by
  have hl : s.heap.IsList l items := PySem.IsL.isList e
  have hb : s.heap.IsList b new := PySem.IsL.isList e2
  obtain ⟨os, hos, hcs, hds⟩ := id hs
  have hTs : s.TypeIs (.ref sl) "slice" := ⟨os, hos, hcs⟩
  have hstep : ¬ ((rawPart none == rawInt 0) = true) := Bool.false_ne_true
  have hsame : Builtin.List.listSameRef (.ref l) (.ref b) = false := by
    unfold Builtin.List.listSameRef
    exact beq_eq_false_iff_ne.mpr hne
  have hmax : (max (a : Int) (c : Int)).toNat = c := by omega
  have hz' : ((fun xs : Array Value => xs.extract 0 a ++ new ++ xs.extract c xs.size) items).size ≤ sizeLine + 1 := by
    simp only [Array.size_append, Array.size_extract]
    omega
  unfold setItem
  try with_reducible refine wpAny_holding ?_
  first | refine wpAny_bind (wpAny_pure ?_) | skip
  refine wpAny_bind (wpAny_sequenceKey hl.typeIs (by decide) ?_)
  refine wpAny_bind (wpAny_callSpecial?_slot (name := Str.ofString "__setitem__") hl.typeIs slot_list_setitem
    (wpAny_call_entry slot_list_setitem hl.typeIs entry_list_setitem ?_ (args_list_setitem _ _ _)))
  show wpAny _ _ (Builtin.List.listSubscript? (.ref sl) >>= _) _ _ s
  refine wpAny_bind ?_
  unfold Builtin.List.listSubscript?
  refine wpAny_bind (wpAny_specialOf hTs slice_no_index ?_)
  simp only [Option.isNone_none, if_true]
  refine wpAny_pure ?_
  show wpAny _ _ (typeOf (.ref sl) >>= _) _ _ s
  refine wpAny_bind (wpAny_typeOf hTs ?_)
  first
    | rw [if_neg (by decide)]
    | refine PySem.W.KFB.if_not (by decide) ?_
  rw [listSliceParts_eq]
  refine wpAny_bind (wpAny_bind (wpAny_field hos hds (x := .none) rfl (wpAny_bind (wpAny_listPart .none ?_))))
  rw [if_neg hstep]
  refine wpAny_bind (wpAny_field hos hds (x := vl) rfl (wpAny_bind (wpAny_listPart pl ?_)))
  refine wpAny_bind (wpAny_field hos hds (x := vu) rfl (wpAny_bind (wpAny_listPart pu (wpAny_pure ?_))))
  first
    | simp only [hsame, Bool.false_eq_true, if_false]
    | refine PySem.W.KFB.if_not hsame ?_
    | (dsimp only
       rw [if_neg (by rw [hsame]; exact Bool.false_ne_true)])
  refine wpAny_bind (m := Builtin.List.listAllItems (.ref b) "must assign iterable to extended slice") ?_
  unfold Builtin.List.listAllItems
  refine wpAny_bind (wpAny_typeOf hb.typeIs ?_)
  first
    | refine PySem.W.KFB.if_so (by decide) ?_
    | rw [if_pos (by decide)]
    | simp only [beq_self_eq_true, Bool.true_or, if_true]
  unfold Builtin.List.listItems
  refine wpAny_bind (wpAny_seqItems e2 rfl (wpAny_pure ?_))
  refine wpAny_bind (wpAny_bind (wpAny_seqItems e rfl (wpAny_pure ?_)))
  refine wpAny_bind (wpAny_of_eq ((sliceIndices_raw (some (a : Int)) (some (c : Int)) none items.size (by simp)).trans (congrArg (pure : Int × Int × Int → Sem (Int × Int × Int)) (bounds_run hac hc))) ?_)
  show wpAny _ _ (if ((1 : Int) == 1) = true then _ else _) _ _ s
  rw [if_pos (by decide)]
  refine wpAny_bind (wpAny_rule ?_)
  first
    | simp only [notLongL hsz, Bool.false_eq_true, if_false]
    | refine PySem.W.KFB.if_not (notLongL hsz) ?_
  first | refine wpAny_bind (wpAny_pure ?_) | skip
  show wpAny _ _ (updateSeq l (fun xs => xs.extract 0 ((a : Int)).toNat ++ new ++ xs.extract (max (a : Int) (c : Int)).toNat xs.size) >>= _) _ _ s
  rw [hmax, Int.toNat_natCast]
  refine wpAny_bind (wpAny_updateSeq (hz := Nat.le_trans (Nat.le_add_right _ _) hsz) (_hz' := hz') e rfl ?_)
  refine wpAny_bind (wpAny_letGo ?_)
  first
    | exact wpAny_bind (wpAny_pure (wpAny_pure ⟨.none, rfl, wpAny_pure h⟩))
    | exact wpAny_pure ⟨.none, rfl, wpAny_pure h⟩
end

section
variable {X : Cx}
/-- xs[a:c] = ys of another list, at the value level: sl is the slice object that was just made -/
theorem set_slice {pins : List (Addr × Obj)} {s : Shared} {σ : St} {H : Hp} {l b sl : Addr} {xs ys : List V} {a c : Int} {vl vu : Value} {Q : Unit → Shared → Prop} (I : Inv X pins σ H s)
    (hH : H l = some (.lst xs)) (hB : H b = some (.lst ys)) (hne : l ≠ b) (hs : s.heap.IsSliceOf sl vl vu .none) (ra : RelV (.int a) vl) (rc : RelV (.int c) vu) (h0 : 0 ≤ a) (hac : a ≤ c) (hc : c ≤ xs.length)
    (hz : xs.length + ys.length ≤ sizeLine) (h : ∀ s', Inv X pins σ (upd H l (.lst (xs.take a.toNat ++ ys ++ xs.drop c.toNat))) s' → Q () s') :
    wpAny (model X.prog X.w) X.A (setItem (.ref l) (.ref sl) (.ref b)) Q X.xe s := by
  obtain ⟨ta, rfl⟩ := ra
  obtain ⟨tc, rfl⟩ := rc
  obtain ⟨z, its, n, r, hl, e⟩ := I.lstM hH
  obtain ⟨z2, its2, n2, r2, hl2, e2⟩ := I.lstM hB
  obtain ⟨a', rfl⟩ := Int.eq_ofNat_of_zero_le h0
  obtain ⟨c', rfl⟩ := Int.eq_ofNat_of_zero_le (Int.le_trans h0 hac)
  simp only [Int.toNat_natCast] at h
  refine setItem_slice (a := a') (c := c') e e2 hne hs (.int _ _) (.int _ _) (by omega) (by rw [List.size_toArray]; omega) (by rw [List.size_toArray, List.size_toArray]; omega) (h _ ?_)
  refine I.lset (its' := its.take a' ++ its2 ++ its.drop c') (t' := s.toks) hH e ?_ (Vals.append (Vals.append (r.take _) r2) (r.drop _)) ?_
  · exact splice_eq its its2 a' c'
  · rw [List.length_append, List.length_append, List.length_take, List.length_drop]
    omega
end
end L2

namespace L2
open PySem PySem.Spec PyProof.Rows

theorem Vals.ints : ∀ {ns : List Int} {us : List Value}, Vals (ns.map V.int) us → IntsAre us ns
  | [], us, h => by
    rw [List.map_nil] at h
    cases h
    exact IntsAre.nil
  | n :: ns, us, h => by
    rw [List.map_cons] at h
    cases h with
    | cons r t =>
      obtain ⟨k, rfl⟩ := r
      exact IntsAre.cons n k (Vals.ints t)
theorem vals_of_ints : ∀ {us : List Value} {ns : List Int}, IntsAre us ns → Vals (ns.map V.int) us
  | _, _, .nil => by rw [List.map_nil]; exact Paired.nil
  | _, _, .cons n t h => by rw [List.map_cons]; exact Paired.cons (show RelV (V.int n) (Value.int n t) from ⟨t, rfl⟩) (vals_of_ints h)
theorem Vals.strs : ∀ {xs : List Str} {us : List Value}, Vals (xs.map V.str) us → StrsAre us xs
  | [], us, h => by
    rw [List.map_nil] at h
    cases h
    exact StrsAre.nil
  | x :: xs, us, h => by
    rw [List.map_cons] at h
    cases h with
    | cons r t =>
      obtain ⟨k, rfl⟩ := r
      exact StrsAre.cons x k (Vals.strs t)
theorem vals_of_strs : ∀ {us : List Value} {xs : List Str}, StrsAre us xs → Vals (xs.map V.str) us
  | _, _, .nil => by rw [List.map_nil]; exact Paired.nil
  | _, _, .cons x t h => by rw [List.map_cons]; exact Paired.cons (show RelV (V.str x) (Value.str x t) from ⟨t, rfl⟩) (vals_of_strs h)
theorem Vals.bls : ∀ {bs : List Bool} {us : List Value}, Vals (bs.map V.bl) us → us = bs.map Value.bool
  | [], us, h => by
    rw [List.map_nil] at h
    cases h
    rfl
  | b :: bs, us, h => by
    rw [List.map_cons] at h
    cases h with
    | cons r t =>
      cases r
      rw [Vals.bls t, List.map_cons]
theorem Vals.ref1 {a : Addr} {us : List Value} (r : Vals [V.ref a] us) : us = [Value.ref a] := by
  cases r with
  | cons r t =>
    cases t
    cases r
    rfl
theorem Vals.int2 {i j : Int} {us : List Value} (r : Vals [V.int i, V.int j] us) : ∃ t u, us = [Value.int i t, Value.int j u] := by
  cases r with
  | cons r t =>
    cases t with
    | cons r2 t2 =>
      cases t2
      obtain ⟨t, rfl⟩ := r
      obtain ⟨u, rfl⟩ := r2
      exact ⟨t, u, rfl⟩

/-! ### the library's walks over a list of ints, kept objects alone -/
section
variable {prog : Program} {w : World} {A : Around} {E : Value → Shared → Prop} {s : Shared} {l : Addr} {its : List Value} {ns : List Int} {Q : Value → Shared → Prop}
theorem sum_raw (hh : A.handled = none) (hl : s.heap.IsList l its.toArray) (hi : IntsAre its ns)
    (h : ∀ h' tk t', (∀ b o, s.heap.get? b = some o → h'.get? b = some o) → Q (.int ns.sum t') { s with heap := h', toks := tk }) : wpAny (model prog w) A (call (.builtin "sum") [.ref l]) Q E s := by
  obtain ⟨xs, e⟩ := hi.allInts.items
  have hn : numsOf (intItems xs).toList = ns := by rw [← e]; exact hi.numsOf
  rw [nums_intItems] at hn
  rw [e] at hl
  refine PySem.sum_intListG hh hl fun h' tk t' hk => ?_
  have := h h' tk t' hk
  rw [preSum_eq, List.take_of_length_le (by simp), hn]; exact this
theorem max_raw (hh : A.handled = none) (hl : s.heap.IsList l its.toArray) (hi : IntsAre its ns) (hne : 0 < ns.length)
    (h : ∀ h' tk M t', (∀ b o, s.heap.get? b = some o → h'.get? b = some o) → M ∈ ns → (∀ a, a ∈ ns → a ≤ M) → Q (.int M t') { s with heap := h', toks := tk }) : wpAny (model prog w) A (call (.builtin "max") [.ref l]) Q E s := by
  obtain ⟨xs, e⟩ := hi.allInts.items
  have hn : numsOf (intItems xs).toList = ns := by rw [← e]; exact hi.numsOf
  rw [nums_intItems] at hn
  subst hn
  rw [e] at hl
  have hsz : 0 < xs.size := by simpa using hne
  refine PySem.max_intList hh hl hsz fun v h' tk hv hk => ?_
  obtain ⟨t, rfl⟩ := intItems_at hv
  obtain ⟨h1, h2⟩ := argBest_gt (numAt xs) (xs.size - 1)
  refine h h' tk _ t hk ?_ fun a ha => ?_
  · rw [numAt_eq]; exact PySem.getD_mem (by rw [List.length_map, Array.length_toList]; omega)
  · obtain ⟨j, hj, rfl⟩ := mem_getD ha
    rw [List.length_map, Array.length_toList] at hj
    rw [← numAt_eq]; exact h2 j (by omega)
theorem min_raw (hh : A.handled = none) (hl : s.heap.IsList l its.toArray) (hi : IntsAre its ns) (hne : 0 < ns.length)
    (h : ∀ h' tk M t', (∀ b o, s.heap.get? b = some o → h'.get? b = some o) → M ∈ ns → (∀ a, a ∈ ns → M ≤ a) → Q (.int M t') { s with heap := h', toks := tk }) : wpAny (model prog w) A (call (.builtin "min") [.ref l]) Q E s := by
  obtain ⟨xs, e⟩ := hi.allInts.items
  have hn : numsOf (intItems xs).toList = ns := by rw [← e]; exact hi.numsOf
  rw [nums_intItems] at hn
  subst hn
  rw [e] at hl
  have hsz : 0 < xs.size := by simpa using hne
  refine PySem.min_intList hh hl hsz fun v h' tk hv hk => ?_
  obtain ⟨t, rfl⟩ := intItems_at hv
  obtain ⟨h1, h2⟩ := argBest_lt (numAt xs) (xs.size - 1)
  refine h h' tk _ t hk ?_ fun a ha => ?_
  · rw [numAt_eq]; exact PySem.getD_mem (by rw [List.length_map, Array.length_toList]; omega)
  · obtain ⟨j, hj, rfl⟩ := mem_getD ha
    rw [List.length_map, Array.length_toList] at hj
    rw [← numAt_eq]; exact h2 j (by omega)
end

/-! ### the calls, by values (CallR of 03t; MtR of 06l) -/
section
variable {X : Cx}
/-- sum(xs) of a list of ints -/
def rSum (K : PySem.W.Frag) : List V → Hp → VK → Prop := fun vs H Q => ∃ (a : Addr) (ns : List Int), vs = [V.ref a] ∧ SqL K H a (ns.map V.int) ∧ Q (.int ns.sum) H
/-- max(xs), min(xs) of a list of ints -/
def rMax (K : PySem.W.Frag) : List V → Hp → VK → Prop := fun vs H Q => ∃ (a : Addr) (ns : List Int), vs = [V.ref a] ∧ SqL K H a (ns.map V.int) ∧ 0 < ns.length ∧ ∀ m, m ∈ ns → (∀ y, y ∈ ns → y ≤ m) → Q (.int m) H
def rMin (K : PySem.W.Frag) : List V → Hp → VK → Prop := fun vs H Q => ∃ (a : Addr) (ns : List Int), vs = [V.ref a] ∧ SqL K H a (ns.map V.int) ∧ 0 < ns.length ∧ ∀ m, m ∈ ns → (∀ y, y ∈ ns → m ≤ y) → Q (.int m) H
theorem cr_sum (hc : X.calm = true) : CallR X (.builtin "sum") (rSum X.K) := by
  intro pins s σ H vs us Q I r h
  obtain ⟨a, ns, rfl, hs, q⟩ := h
  obtain ⟨its, rv, hl, _⟩ := I.list hs
  rw [Vals.ref1 r]
  exact sum_raw (I.ok.hd hc) hl.isList rv.ints fun h' tk t' hk => ⟨.int _, H, I.kept hk, ⟨_, rfl⟩, q⟩
theorem cr_max (hc : X.calm = true) : CallR X (.builtin "max") (rMax X.K) := by
  intro pins s σ H vs us Q I r h
  obtain ⟨a, ns, rfl, hs, hne, q⟩ := h
  obtain ⟨its, rv, hl, _⟩ := I.list hs
  rw [Vals.ref1 r]
  exact max_raw (I.ok.hd hc) hl.isList rv.ints hne fun h' tk m t' hk h1 h2 => ⟨.int _, H, I.kept hk, ⟨_, rfl⟩, q m h1 h2⟩
theorem cr_min (hc : X.calm = true) : CallR X (.builtin "min") (rMin X.K) := by
  intro pins s σ H vs us Q I r h
  obtain ⟨a, ns, rfl, hs, hne, q⟩ := h
  obtain ⟨its, rv, hl, _⟩ := I.list hs
  rw [Vals.ref1 r]
  exact min_raw (I.ok.hd hc) hl.isList rv.ints hne fun h' tk m t' hk h1 h2 => ⟨.int _, H, I.kept hk, ⟨_, rfl⟩, q m h1 h2⟩

/-! sorted, sort (fewer than 64 items: the library's own bound) -/
def rSorted (K : PySem.W.Frag) : List V → Hp → VK → Prop := fun vs H Q => ∃ (a : Addr) (ns : List Int), vs = [V.ref a] ∧ SqL K H a (ns.map V.int) ∧ ns.length < 64 ∧
  ∀ (ns' : List Int) (p : Addr), ns'.Perm ns → ns'.Pairwise (· ≤ ·) → H p = none → Q (.ref p) (upd H p (.lst (ns'.map V.int)))
def rSortedS (K : PySem.W.Frag) : List V → Hp → VK → Prop := fun vs H Q => ∃ (a : Addr) (xs : List Str), vs = [V.ref a] ∧ SqL K H a (xs.map V.str) ∧ xs.length < 64 ∧
  ∀ (ys : List Str) (p : Addr), ys.Perm xs → sortedS ys = true → H p = none → Q (.ref p) (upd H p (.lst (ys.map V.str)))
theorem small64 {n : Nat} (h : n < 64) : n ≤ sizeLine := by rw [sizeLine_eq]; omega
theorem cr_sorted : CallR X (.builtin "sorted") (rSorted X.K) := by
  intro pins s σ H vs us Q I r h
  obtain ⟨a, ns, rfl, hs, h64, q⟩ := h
  obtain ⟨its, rv, hl, _⟩ := I.list hs
  rw [Vals.ref1 r]
  have hi := rv.ints
  refine PyProof.Rows.sorted_ints hl.isList hi (by rw [hi.length]; exact h64) fun out ns' h1 h2 h3 => ?_
  obtain ⟨ep, he'⟩ := PyProof.Rows.sortedAll_at s.heap its out
  have hlen : (ns'.map V.int).length ≤ sizeLine := by rw [List.length_map, h2.length_eq]; exact small64 h64
  exact ⟨.ref _, upd H (s.heap.objs.size + 1) (.lst (ns'.map V.int)), I.laid (t' := s.toks) (fun _ _ => PyProof.Rows.sortedAll_old) (Nat.le_succ _) ⟨hlen, out.toList, ep, vals_of_ints h1, he'⟩, rfl, q ns' _ h2 h3 (I.hok.fresh (Nat.le_succ _))⟩
theorem cr_sortedS : CallR X (.builtin "sorted") (rSortedS X.K) := by
  intro pins s σ H vs us Q I r h
  obtain ⟨a, xs, rfl, hs, h64, q⟩ := h
  obtain ⟨its, rv, hl, _⟩ := I.list hs
  rw [Vals.ref1 r]
  have hlen0 := rv.length
  rw [List.length_map] at hlen0
  refine PyProof.Rows.sorted_strs hl.isList rv.strs (by rw [← hlen0]; exact h64) fun out ys h1 h2 h3 => ?_
  obtain ⟨ep, he'⟩ := PyProof.Rows.sortedAll_at s.heap its out
  have hlen : (ys.map V.str).length ≤ sizeLine := by rw [List.length_map, h2.length_eq]; exact small64 h64
  exact ⟨.ref _, upd H (s.heap.objs.size + 1) (.lst (ys.map V.str)), I.laid (t' := s.toks) (fun _ _ => PyProof.Rows.sortedAll_old) (Nat.le_succ _) ⟨hlen, out.toList, ep, vals_of_strs h1, he'⟩, rfl, q ys _ h2 h3 (I.hok.fresh (Nat.le_succ _))⟩
/-- xs.sort(), ints -/
def rSort : V → List V → Hp → VK → Prop := fun x xs H Q => ∃ (a : Addr) (ns : List Int), x = V.ref a ∧ xs = [] ∧ H a = some (.lst (ns.map V.int)) ∧ ns.length < 64 ∧
  ∀ ns' : List Int, ns'.Perm ns → ns'.Pairwise (· ≤ ·) → Q .non (upd H a (.lst (ns'.map V.int)))
theorem mt_sort : MtR X "list.sort" rSort := by
  intro pins s σ H x xs v us Q I rx rxs h
  obtain ⟨a, ns, rfl, rfl, ha, h64, q⟩ := h
  cases rx
  cases rxs
  obtain ⟨hz, its, n, rv, hob⟩ := I.hok a _ ha
  have hi := rv.ints
  refine wpAny_call_entry PyProof.Rows.slot_list_sort ⟨_, hob, rfl⟩ PyProof.Rows.entry_list_sort
    (PyProof.Rows.list_sort_tree hob hi (by rw [hi.length]; exact h64) fun out ns' h1 h2 h3 => ⟨.none, rfl, ?_⟩) (PyProof.Rows.args_list_sort _)
  obtain ⟨ep, he'⟩ := PyProof.Rows.sortedHeap_at (vs := its) (out := out) hob
  have hlen : (ns'.map V.int).length ≤ sizeLine := by rw [List.length_map, h2.length_eq]; exact small64 h64
  refine ⟨.non, upd H a (.lst (ns'.map V.int)), I.write (e := a) (t' := s.toks) (by rw [ha]; trivial) (.inl rfl) (fun b u hb hu => ?_) ⟨_, he'⟩ ⟨hlen, out.toList, ep, vals_of_ints h1, he'⟩, rfl, q ns' h2 h3⟩
  rw [PyProof.Rows.sortedHeap_old hb (Heap.lt_size hu)]; exact hu
end

/-! ### list.index, flat items -/
section
variable {X : Cx}
def rIndex (K : PySem.W.Frag) : V → List V → Hp → VK → Prop := fun x xs H Q => ∃ (a : Addr) (ys : List V) (y : V) (j : Nat) (z : V), x = V.ref a ∧ xs = [y] ∧ SqL K H a ys ∧ flatV y = true ∧ ys.all flatV = true ∧ ys[j]? = some z ∧ eqV z y = true ∧
  (∀ (m : Nat) (z' : V), m < j → ys[m]? = some z' → eqV z' y = false) ∧ Q (.int (j : Nat)) H
theorem flat_at {ys : List V} (f : ys.all flatV = true) {j : Nat} {z : V} (h : ys[j]? = some z) : flatV z = true := List.all_eq_true.mp f z (List.mem_of_getElem? h)
theorem mt_index : MtR X "list.index" (rIndex X.K) := by
  intro pins s σ H x xs v us Q I rx rxs h
  obtain ⟨a, ys, y, j, z, rfl, rfl, hs, fy, fys, hz, hzj, hno, q⟩ := h
  cases rx
  cases rxs with
  | cons ry rt =>
    rename_i uy ut
    cases rt
    obtain ⟨its, rv, ⟨⟨cls, dd, data, sl⟩, n, ho, hc, hdn, hd⟩, hlen⟩ := I.list hs
    simp only at hc hd
    subst hc hd
    obtain ⟨u, hu, ru⟩ := rv.get hz
    obtain ⟨hjl, hje⟩ := List.getElem?_eq_some_iff.mp hu
    have hvl := rv.length
    have hj : j < its.toArray.size := by simpa using hjl
    have hsl := sizeLine_eq
    refine call_meets PySem.F.slot_list_index ⟨_, ho, rfl⟩ PySem.F.entry_list_index (PySem.F.args_list_index_2 _ _)
      (SeqAt.list_indexAt a its.toArray n dd sl uy (eqU y) j hj (by omega) ?_ ?_) ⟨ho, fun u' hu' => mem_eqAt ry fy rv fys u' (by simpa using hu'), ?_⟩
    · have e1 : its.toArray[j] = u := by simpa using hje
      rw [e1, eqU_of ru (flat_at fys hz)]
      exact hzj
    · intro m hm hmj
      have hml : m < its.length := by simpa using hm
      have hmy : m < ys.length := by omega
      have hy' : ys[m]? = some ys[m] := List.getElem?_eq_getElem hmy
      obtain ⟨u2, hu2, ru2⟩ := rv.get hy'
      obtain ⟨_, hme⟩ := List.getElem?_eq_some_iff.mp hu2
      have e1 : its.toArray[m] = u2 := by simpa using hme
      rw [e1, eqU_of ru2 (flat_at fys hy')]
      exact hno m _ hmj hy'
    · exact ⟨.int (j : Nat), H, I.tok _, ⟨_, rfl⟩, q⟩
end

/-! ### type(x) of an own instance; is, is not of a module's class -/
section
variable {X : Cx}
theorem cr_type : CallR X (.type "type") (fun xs H Q => ∃ a C dx fs, xs = [V.ref a] ∧ H a = some (.ins C dx fs) ∧ Q (.ref C) H) := by
  intro pins s σ H xs us Q I r h
  obtain ⟨a, C, dx, fs, rfl, ha, q⟩ := h
  rw [Vals.ref1 r]
  obtain ⟨mA, O, _⟩ := ins_get I.hok ha
  obtain ⟨od, J, _⟩ := O.look
  exact PySem.W.kto_own J ⟨.ref C, H, I, rfl, q⟩
/-- an object of the module whose class is no tuple: a class of the text (makesIn says that its type is a type's heir) -/
theorem cls_there {K : PySem.W.Frag} {C : Addr} (h : PySem.W.makesIn K C = true) : ∃ o, K.lookup C = some o ∧ o.cls ≠ .type "tuple" := by
  unfold PySem.W.makesIn at h
  split at h
  · rename_i oc od cd sl ho
    refine ⟨_, ho, fun e => ?_⟩
    rw [Bool.and_eq_true] at h
    have h2 : PySem.W.instIn K (.ref C) (.type "type") = some true := beq_iff_eq.mp h.2
    have e2 : oc = .type "tuple" := e
    have h3 : PySem.W.instIn K (.ref C) (.type "type") = PySem.W.subIn K oc (.type "type") := by
      show ((K.lookup C).map (fun o => o.cls)).bind (fun t => PySem.W.subIn K t (.type "type")) = _
      rw [ho]
      all_goals rfl
    rw [h3, e2] at h2
    have h4 : PySem.W.subIn K (.type "tuple") (.type "type") = some false := by
      show (fastBuiltinMro "tuple").map (·.contains (.type "type")) = some false
      decide +kernel
    rw [h4] at h2
    cases h2
  · cases h
theorem op_is_cls : OpR X (compareOp .Is) (fun x y H Q => ∃ a b, x = V.ref a ∧ y = V.ref b ∧ (a = b ∨ (PySem.W.makesIn X.K a = true ∧ PySem.W.makesIn X.K b = true)) ∧ Q (.bl (decide (a = b))) H) := by
  intro pins s σ H x y v u Q I rx ry h
  obtain ⟨a, b, rfl, rfl, hab, q⟩ := h
  cases rx
  cases ry
  by_cases z : a = b
  · subst z
    exact wpAny_is_ref_self ⟨.bl _, H, I, by simp [RelV], q⟩
  · rcases hab with e | ⟨h1, h2⟩
    · exact absurd e z
    · obtain ⟨o1, e1, n1⟩ := cls_there h1
      obtain ⟨o2, e2, _⟩ := cls_there h2
      exact wpAny_is_ref_other z (I.kIn _ _ e1) (I.kIn _ _ e2) n1 ⟨.bl _, H, I, by simp [RelV, z], q⟩
theorem op_isnot_cls : OpR X (compareOp .IsNot) (fun x y H Q => ∃ a b, x = V.ref a ∧ y = V.ref b ∧ (a = b ∨ (PySem.W.makesIn X.K a = true ∧ PySem.W.makesIn X.K b = true)) ∧ Q (.bl (!decide (a = b))) H) := by
  intro pins s σ H x y v u Q I rx ry h
  obtain ⟨a, b, rfl, rfl, hab, q⟩ := h
  cases rx
  cases ry
  by_cases z : a = b
  · subst z
    exact wpAny_isNot_ref_self ⟨.bl _, H, I, by simp [RelV], q⟩
  · rcases hab with e | ⟨h1, h2⟩
    · exact absurd e z
    · obtain ⟨o1, e1, n1⟩ := cls_there h1
      obtain ⟨o2, e2, _⟩ := cls_there h2
      exact wpAny_isNot_ref_other z (I.kIn _ _ e1) (I.kIn _ _ e2) n1 ⟨.bl _, H, I, by simp [RelV, z], q⟩
end

/-! ### any(xs), all(xs) of a list of bools -/
theorem iter_any {prog : Program} {w : World} {A : Around} {E : Value → Shared → Prop} {s : Shared} {l : Addr} {items : Array Value} {Q : Value → Shared → Prop} (hl : s.heap.IsList l items)
    (h : ∀ s₂ : Shared, s₂ = { s with heap := s.heap.push { cls := .type "list_iterator", data := .fields #[.ref l, .int 0 0] } } →
      (s₂.heap.IsListIter s.heap.objs.size l 0 ∧ s₂.heap.IsList l items) → l ≠ s.heap.objs.size → Q (.ref s.heap.objs.size) s₂) : wpAny (model prog w) A (pyIter (.ref l)) Q E s := by
  have hlt : l < s.heap.objs.size := by obtain ⟨_, e, _⟩ := hl; exact Heap.lt_size e
  exact wpAny_pyIter_list hl (h _ rfl ⟨⟨_, Heap.get?_push_size _ rfl, rfl, rfl⟩, hl.push _⟩ (Nat.ne_of_lt hlt))
theorem truth_bools {prog : Program} {w : World} {A : Around} {bs : List Bool} {its : List Value} (e : its = bs.map Value.bool) :
    TruthOf prog w A (fun i v => its.toArray[i]? = some v) (fun i => bs.getD i false) := fun i v s Q E hv hq => by
  have hv' : its[i]? = some v := by simpa using hv
  rw [e, List.getElem?_map] at hv'
  obtain ⟨b, hb, rfl⟩ := Option.map_eq_some_iff.mp hv'
  have hg : bs.getD i false = b := by rw [List.getD_eq_getElem?_getD, hb] <;> rfl
  have hq' : Q (bs.getD i false) s := hq
  rw [hg] at hq'
  exact wpAny_truthy_bool hq'
theorem any_range : ∀ bs : List Bool, (List.range bs.length).any (fun i => bs.getD i false) = bs.any id
  | [] => rfl
  | b :: bs => by
    rw [List.length_cons, List.range_succ_eq_map, List.any_cons, List.any_map, List.any_cons, ← any_range bs]
    all_goals rfl
theorem all_range : ∀ bs : List Bool, (List.range bs.length).all (fun i => bs.getD i false) = bs.all id
  | [] => rfl
  | b :: bs => by
    rw [List.length_cons, List.range_succ_eq_map, List.all_cons, List.all_map, List.all_cons, ← all_range bs]
    all_goals rfl
section
variable {X : Cx}
def rAny (K : PySem.W.Frag) : List V → Hp → VK → Prop := fun vs H Q => ∃ (a : Addr) (bs : List Bool), vs = [V.ref a] ∧ SqL K H a (bs.map V.bl) ∧ Q (.bl (bs.any id)) H
def rAll (K : PySem.W.Frag) : List V → Hp → VK → Prop := fun vs H Q => ∃ (a : Addr) (bs : List Bool), vs = [V.ref a] ∧ SqL K H a (bs.map V.bl) ∧ Q (.bl (bs.all id)) H
theorem cr_any (hc : X.calm = true) : CallR X (.builtin "any") (rAny X.K) := by
  intro pins s σ H vs us Q I r h
  obtain ⟨a, bs, rfl, hs, q⟩ := h
  obtain ⟨its, rv, hl, _⟩ := I.list hs
  rw [Vals.ref1 r]
  have hb := rv.bls
  refine call_any_walk (iter_any hl.isList fun s₂ e2 st hne => ?_)
  subst e2
  refine ⟨_, _, _, _, _, _, _, rfl, Walks.list (A := X.A.in1) (I.ok.hd hc) _ a hne its.toArray, st, truth_bools hb, fun h' tk hk => ?_⟩
  refine ⟨.bl _, H, I.kept fun b o eo => hk b o (fun hmem => ?_) (Heap.get?_push_of_some _ eo), ?_, q⟩
  · rcases List.mem_cons.mp hmem with e1 | hmem
    · exact absurd (e1 ▸ Heap.lt_size eo) (Nat.lt_irrefl _)
    · cases hmem
  · show Value.bool _ = Value.bool _
    rw [← any_range, hb, List.size_toArray, List.length_map]
theorem cr_all (hc : X.calm = true) : CallR X (.builtin "all") (rAll X.K) := by
  intro pins s σ H vs us Q I r h
  obtain ⟨a, bs, rfl, hs, q⟩ := h
  obtain ⟨its, rv, hl, _⟩ := I.list hs
  rw [Vals.ref1 r]
  have hb := rv.bls
  refine call_all_walk (iter_any hl.isList fun s₂ e2 st hne => ?_)
  subst e2
  refine ⟨_, _, _, _, _, _, _, rfl, Walks.list (A := X.A.in1) (I.ok.hd hc) _ a hne its.toArray, st, truth_bools hb, fun h' tk hk => ?_⟩
  refine ⟨.bl _, H, I.kept fun b o eo => hk b o (fun hmem => ?_) (Heap.get?_push_of_some _ eo), ?_, q⟩
  · rcases List.mem_cons.mp hmem with e1 | hmem
    · exact absurd (e1 ▸ Heap.lt_size eo) (Nat.lt_irrefl _)
    · cases hmem
  · show Value.bool _ = Value.bool _
    rw [← all_range, hb, List.size_toArray, List.length_map]
end

/-! ### == and != of data at any depth: none, bools, ints, texts, lists, tuples -/
mutual
inductive Dp (K : PySem.W.Frag) (H : Hp) : V → PyData → Prop
  | non : Dp K H .non .none
  | bl (b : Bool) : Dp K H (.bl b) (.bool b)
  | int (i : Int) : Dp K H (.int i) (.int i)
  | str (x : Str) : Dp K H (.str x) (.str x)
  | lst {a : Addr} {xs : List V} {ds : List PyData} : SqL K H a xs → DpAll K H xs ds → Dp K H (.ref a) (.list ds)
  | tup {a : Addr} {xs : List V} {ds : List PyData} : SqT K H a xs → DpAll K H xs ds → Dp K H (.ref a) (.tuple ds)
inductive DpAll (K : PySem.W.Frag) (H : Hp) : List V → List PyData → Prop
  | nil : DpAll K H [] []
  | cons {v : V} {vs : List V} {d : PyData} {ds : List PyData} : Dp K H v d → DpAll K H vs ds → DpAll K H (v :: vs) (d :: ds)
end
section
variable {X : Cx} {pins : List (Addr × Obj)} {σ : St} {H : Hp} {s : Shared}
mutual
theorem Dp.reads (I : Inv X pins σ H s) : ∀ (d : PyData) (v : V) (u : Value), Dp X.K H v d → RelV v u → ∃ as, Reads s.heap u d as
  | .none, _, _, h, r => by
    cases h
    cases r
    exact ⟨_, Reads.none⟩
  | .bool b, _, _, h, r => by
    cases h
    cases r
    exact ⟨_, Reads.bool b⟩
  | .int i, _, _, h, r => by
    cases h
    obtain ⟨t, rfl⟩ := r
    exact ⟨_, Reads.int i t⟩
  | .str x, _, _, h, r => by
    cases h
    obtain ⟨t, rfl⟩ := r
    exact ⟨_, Reads.str x t⟩
  | .list ds, _, _, h, r => by
    cases h with
    | lst hs ha =>
      cases r
      obtain ⟨its, rv, ⟨o, n, ho, hc, _, hd⟩, _⟩ := I.list hs
      obtain ⟨as, hr⟩ := Dp.readsAll I ds _ its ha rv
      exact ⟨_, Reads.list ho hc hd hr⟩
  | .tuple ds, _, _, h, r => by
    cases h with
    | tup hs ha =>
      cases r
      obtain ⟨its, rv, ⟨o, ho, hc, n, hd⟩, _⟩ := I.tuple hs
      obtain ⟨as, hr⟩ := Dp.readsAll I ds _ its ha rv
      exact ⟨_, Reads.tuple ho hc hd hr⟩
  | .dict _, _, _, h, _ => by cases h
theorem Dp.readsAll (I : Inv X pins σ H s) : ∀ (ds : List PyData) (vs : List V) (us : List Value), DpAll X.K H vs ds → Vals vs us → ∃ as, ReadsAll s.heap us ds as
  | [], _, _, h, r => by
    cases h
    cases r
    exact ⟨_, ReadsAll.nil⟩
  | d :: ds, _, _, h, r => by
    cases h with
    | cons h1 h2 =>
      cases r with
      | cons r1 r2 =>
        obtain ⟨as, q1⟩ := Dp.reads I d _ _ h1 r1
        obtain ⟨bs, q2⟩ := Dp.readsAll I ds _ _ h2 r2
        exact ⟨_, ReadsAll.cons q1 q2⟩
end
end
section
variable {X : Cx}
def rEqD (K : PySem.W.Frag) : R2 := fun x y H Q => ∃ d e, Dp K H x d ∧ Dp K H y e ∧ SeqAt.shaped d = true ∧ SeqAt.shaped e = true ∧ Q (.bl (PyData.eqv d e)) H
def rNeD (K : PySem.W.Frag) : R2 := fun x y H Q => ∃ d e, Dp K H x d ∧ Dp K H y e ∧ SeqAt.shaped d = true ∧ SeqAt.shaped e = true ∧ Q (.bl (!PyData.eqv d e)) H
theorem op_eqD (hu : X.A.units + 64 < cLine) : OpR X (compareOp .Eq) (rEqD X.K) := by
  intro pins s σ H x y v u Q I rx ry h
  obtain ⟨d, e, hd, he, sd, se, q⟩ := h
  obtain ⟨as, r1⟩ := Dp.reads I d x v hd rx
  obtain ⟨bs, r2⟩ := Dp.reads I e y u he ry
  exact SeqAt.compareEq_shaped r1 r2 sd se hu ⟨.bl _, H, I, rfl, q⟩
theorem op_neD (hu : X.A.units + 64 < cLine) : OpR X (compareOp .NotEq) (rNeD X.K) := by
  intro pins s σ H x y v u Q I rx ry h
  obtain ⟨d, e, hd, he, sd, se, q⟩ := h
  obtain ⟨as, r1⟩ := Dp.reads I d x v hd rx
  obtain ⟨bs, r2⟩ := Dp.reads I e y u he ry
  exact SeqAt.compareNe_shaped r1 r2 sd se hu ⟨.bl _, H, I, rfl, q⟩
end
end L2

namespace L2
open PySem PySem.Spec PyProof.Rows
abbrev CellAt (h : Heap) (c : Addr) (v : Option Value) : Prop := h.IsCell c v
def relS (scope sc : Scope) : Scope :=
  { scope with names := scope.names.map fun (n, k) => if (k == .free && sc.kind == .function && sc.names.lookup n == some .cell) then (n, .cell) else (n, k) }

def cloFrom (cells : List (Str × Addr)) : List (Str × NameKind) → List (Str × Addr) → List (Str × Addr)
  | [], acc => acc
  | (n, k) :: r, acc => if k == .free then cloFrom cells r ((n, (cells.lookup n).getD 0) :: acc) else cloFrom cells r acc

theorem closure_loop (env : Env) (f : Str × NameKind → List (Str × Addr) → Sem (ForInStep (List (Str × Addr))))
    (hf : ∀ n k c, f (n, k) c = if k == .free then (do let a ← cellOf env n; pure (.yield ((n, a) :: c))) else pure (.yield c)) :
    ∀ (names : List (Str × NameKind)) (acc : List (Str × Addr)), (∀ y ∈ names, y.2 = .free → ∃ c, env.cells.lookup y.1 = some c) → forIn names acc f = pure (cloFrom env.cells names acc)
  | [], acc, _ => by rw [List.forIn_nil]; rfl
  | (n, k) :: r, acc, h => by
    rw [List.forIn_cons, hf]
    have ih := fun acc => closure_loop env f hf r acc fun y hy => h y (List.mem_cons_of_mem _ hy)
    unfold cloFrom
    by_cases hk : (k == NameKind.free) = true
    · rw [if_pos hk, if_pos hk]
      obtain ⟨c, hc⟩ := h (n, k) List.mem_cons_self (by simpa using hk)
      have e : cellOf env n = pure c := by unfold cellOf; rw [hc]
      rw [e]
      have e2 : (env.cells.lookup n).getD 0 = c := by rw [hc]; rfl
      rw [e2]
      exact ih _
    · rw [if_neg hk, if_neg hk]
      exact ih _
theorem closure_ok {scope : Scope} {env : Env} (h : ∀ y ∈ scope.names, y.2 = .free → ∃ c, env.cells.lookup y.1 = some c) : closureFor scope env = pure (cloFrom env.cells scope.names []) := by
  simp only [closureFor]
  rw [closure_loop env _ (fun n k c => rfl) scope.names [] h]
  rfl

theorem mem_lookup {α : Type} : ∀ {l : List (Str × α)} {n : Str} {c : α}, (n, c) ∈ l → ∃ c', l.lookup n = some c'
  | (k, v) :: r, n, c, h => by
    rw [List.lookup_cons]
    cases hb : n == k with
    | true => exact ⟨_, rfl⟩
    | false =>
      rcases List.mem_cons.mp h with e | h
      · cases e; simp at hb
      · exact mem_lookup h

theorem cloFrom_mem {cells : List (Str × Addr)} : ∀ {names : List (Str × NameKind)} {acc : List (Str × Addr)} {n : Str} {c : Addr}, (n, c) ∈ cloFrom cells names acc → (n, c) ∈ acc ∨ ((n, .free) ∈ names ∧ c = (cells.lookup n).getD 0)
  | [], _, _, _, h => .inl h
  | (m, k) :: r, acc, n, c, h => by
    unfold cloFrom at h
    split at h
    · rename_i hk
      have hk : k = .free := by simpa using hk
      rcases cloFrom_mem h with h | ⟨h1, h2⟩
      · rcases List.mem_cons.mp h with e | h
        · cases e; exact .inr ⟨hk ▸ List.mem_cons_self, rfl⟩
        · exact .inl h
      · exact .inr ⟨List.mem_cons_of_mem _ h1, h2⟩
    · rcases cloFrom_mem h with h | ⟨h1, h2⟩
      · exact .inl h
      · exact .inr ⟨List.mem_cons_of_mem _ h1, h2⟩
theorem cloFrom_acc {cells : List (Str × Addr)} : ∀ {names : List (Str × NameKind)} {acc : List (Str × Addr)} {p : Str × Addr}, p ∈ acc → p ∈ cloFrom cells names acc
  | [], _, _, h => h
  | (m, k) :: r, acc, p, h => by
    unfold cloFrom
    split
    · exact cloFrom_acc (List.mem_cons_of_mem _ h)
    · exact cloFrom_acc h
theorem cloFrom_has {cells : List (Str × Addr)} : ∀ {names : List (Str × NameKind)} {acc : List (Str × Addr)} {n : Str}, (n, .free) ∈ names → (n, (cells.lookup n).getD 0) ∈ cloFrom cells names acc
  | (m, k) :: r, acc, n, h => by
    unfold cloFrom
    rcases List.mem_cons.mp h with e | h
    · cases e
      exact cloFrom_acc List.mem_cons_self
    · split
      · exact cloFrom_has h
      · exact cloFrom_has h

theorem cells_mem : ∀ {names : List (Str × NameKind)} {h : Heap} {acc : List (Str × Addr)} {x : Str} {c : Addr}, (x, c) ∈ cellsFrom h.objs.size names acc →
    (x, c) ∈ acc ∨ ((x, .cell) ∈ names ∧ h.objs.size ≤ c ∧ CellAt (pushCells h names) c none)
  | [], _, _, _, _, h => .inl h
  | (n, k) :: r, h, acc, x, c, hm => by
    unfold cellsFrom at hm
    unfold pushCells
    split at hm
    · rename_i hk
      rw [if_pos hk]
      have hk : k = .cell := by simpa using hk
      rw [← Heap.size_push h { cls := .type "cell", data := .cell none }] at hm
      rcases cells_mem hm with hm | ⟨h1, h2, h3⟩
      · rcases List.mem_cons.mp hm with e | hm
        · cases e
          exact .inr ⟨hk ▸ List.mem_cons_self, Nat.le_refl _, _, pushCells_keeps r _ _ _ (Heap.get?_push_size _ rfl), rfl⟩
        · exact .inl hm
      · rw [Heap.size_push] at h2
        exact .inr ⟨List.mem_cons_of_mem _ h1, Nat.le_of_succ_le h2, h3⟩
    · rename_i hk
      rw [if_neg hk]
      rcases cells_mem hm with hm | ⟨h1, h2, h3⟩
      · exact .inl hm
      · exact .inr ⟨List.mem_cons_of_mem _ h1, h2, h3⟩
theorem cells_acc : ∀ {names : List (Str × NameKind)} {n : Nat} {acc : List (Str × Addr)} {p : Str × Addr}, p ∈ acc → p ∈ cellsFrom n names acc
  | [], _, _, _, h => h
  | (m, k) :: r, n, acc, p, h => by
    unfold cellsFrom
    split
    · exact cells_acc (List.mem_cons_of_mem _ h)
    · exact cells_acc h
theorem cells_has : ∀ {names : List (Str × NameKind)} {n : Nat} {acc : List (Str × Addr)} {x : Str}, (x, .cell) ∈ names → ∃ c, (x, c) ∈ cellsFrom n names acc
  | (m, k) :: r, n, acc, x, h => by
    unfold cellsFrom
    rcases List.mem_cons.mp h with e | h
    · cases e
      exact ⟨n, cells_acc List.mem_cons_self⟩
    · split
      · exact cells_has h
      · exact cells_has h
theorem cells_inj : ∀ {names : List (Str × NameKind)} {h : Heap} {acc : List (Str × Addr)} {x y : Str} {c : Addr}, (∀ p ∈ acc, p.2 < h.objs.size) → (∀ x y c, (x, c) ∈ acc → (y, c) ∈ acc → x = y) →
    (x, c) ∈ cellsFrom h.objs.size names acc → (y, c) ∈ cellsFrom h.objs.size names acc → x = y
  | [], _, _, _, _, _, _, hi, h1, h2 => hi _ _ _ h1 h2
  | (n, k) :: r, h, acc, x, y, c, hl, hi, h1, h2 => by
    unfold cellsFrom at h1 h2
    split at h1
    · rename_i hk
      rw [if_pos hk] at h2
      rw [← Heap.size_push h { cls := .type "cell", data := .cell none }] at h1 h2
      refine cells_inj (h := h.push _) (fun p hp => ?_) (fun x y c a b => ?_) h1 h2
      · rw [Heap.size_push]
        rcases List.mem_cons.mp hp with rfl | hp
        · exact Nat.lt_succ_self _
        · exact Nat.lt_succ_of_lt (hl p hp)
      · rcases List.mem_cons.mp a with e | a <;> rcases List.mem_cons.mp b with e' | b
        · cases e; cases e'; rfl
        · cases e; exact absurd (hl _ b) (Nat.lt_irrefl _)
        · cases e'; exact absurd (hl _ a) (Nat.lt_irrefl _)
        · exact hi _ _ _ a b
    · rename_i hk
      rw [if_neg hk] at h2
      exact cells_inj hl hi h1 h2

theorem newEnv_comp {M : Model} {A : Around} {E : Value → Shared → Prop} {s : Shared} {scope : Scope} {globals : Addr} {closure : List (Str × Addr)} {qual : Str} {func : Option Addr} {code : Value} {around : Env} {builtins : Addr} {Q : Env → Shared → Prop}
    (h : Q (newEnv scope s.heap.objs.size globals (cellsFrom (s.heap.objs.size + 1) scope.names closure) qual func code (some around) builtins)
      { s with heap := pushCells (s.heap.push { cls := .type "dict", data := .dict #[] }) scope.names }) :
    wpAny M A (newFunctionEnv scope globals closure [] qual func code (some around) builtins) Q E s := by
  simp only [newFunctionEnv, Option.isSome_some, if_true]
  refine wpAny_bind (wpAny_alloc ?_)
  refine wpAny_bind (wpAny_layCells _ (fun n k c => rfl) scope.names closure _ _ ?_)
  rw [show ({ s with heap := s.heap.push { cls := .type "dict", data := .dict #[] } } : Shared).heap.objs.size = s.heap.objs.size + 1 from Heap.size_push ..]
  rw [List.forIn_nil]
  exact wpAny_bind (wpAny_pure (wpAny_pure h))

/-- every name of the written scope, in the scope that runs -/
theorem lookup_relS {sc : Scope} : ∀ {names : List (Str × NameKind)} {x : Str} {k : NameKind},
    (names.map fun (n, k) => if (k == NameKind.free && sc.kind == .function && sc.names.lookup n == some .cell) then (n, NameKind.cell) else (n, k)).lookup x = some k →
    ∃ k', names.lookup x = some k' ∧ (k = k' ∨ (k' = .free ∧ k = .cell))
  | [], _, _, h => by simp at h
  | (n, k₀) :: r, x, k, h => by
    have ih := @lookup_relS sc r x k
    have h' : List.lookup x ((if (k₀ == NameKind.free && sc.kind == .function && sc.names.lookup n == some .cell) = true then (n, NameKind.cell) else (n, k₀)) :: (r.map _)) = some k := h
    cases hx : x == n with
    | true =>
      simp only [List.lookup_cons, hx]
      by_cases hc : (k₀ == NameKind.free && sc.kind == .function && sc.names.lookup n == some .cell) = true
      · rw [if_pos hc] at h'
        simp only [List.lookup_cons, hx] at h'
        cases h'
        simp only [Bool.and_eq_true, beq_iff_eq] at hc
        exact ⟨k₀, rfl, .inr ⟨hc.1.1, rfl⟩⟩
      · rw [if_neg hc] at h'
        simp only [List.lookup_cons, hx] at h'
        cases h'
        exact ⟨_, rfl, .inl rfl⟩
    | false =>
      simp only [List.lookup_cons, hx]
      by_cases hc : (k₀ == NameKind.free && sc.kind == .function && sc.names.lookup n == some .cell) = true
      · rw [if_pos hc] at h'
        simp only [List.lookup_cons, hx] at h'
        exact ih h'
      · rw [if_neg hc] at h'
        simp only [List.lookup_cons, hx] at h'
        exact ih h'
theorem lookup_relS_keep {sc : Scope} : ∀ {names : List (Str × NameKind)} {x : Str} {k : NameKind}, k ≠ .free → names.lookup x = some k →
    (names.map fun (n, k) => if (k == NameKind.free && sc.kind == .function && sc.names.lookup n == some .cell) then (n, NameKind.cell) else (n, k)).lookup x = some k
  | [], _, _, _, h => by simp at h
  | (n, k₀) :: r, x, k, hk, h => by
    have ih := @lookup_relS_keep sc r x k hk
    show List.lookup x ((if (k₀ == NameKind.free && sc.kind == .function && sc.names.lookup n == some .cell) = true then (n, NameKind.cell) else (n, k₀)) :: (r.map _)) = some k
    cases hx : x == n with
    | true =>
      simp only [List.lookup_cons, hx] at h
      cases h
      have : ¬ (k₀ == NameKind.free && sc.kind == .function && sc.names.lookup n == some .cell) = true := by simp [hk]
      rw [if_neg this]
      simp only [List.lookup_cons, hx]
    | false =>
      simp only [List.lookup_cons, hx] at h
      by_cases hc : (k₀ == NameKind.free && sc.kind == .function && sc.names.lookup n == some .cell) = true
      · rw [if_pos hc]; simp only [List.lookup_cons, hx]; exact ih h
      · rw [if_neg hc]; simp only [List.lookup_cons, hx]; exact ih h

theorem pushCells_size : ∀ (names : List (Str × NameKind)) (h : Heap), h.objs.size ≤ (pushCells h names).objs.size
  | [], _ => Nat.le_refl _
  | (_, k) :: r, h => by
    unfold pushCells
    split
    · refine Nat.le_trans ?_ (pushCells_size r _)
      rw [Heap.size_push]; exact Nat.le_succ _
    · exact pushCells_size r h


/-- the names of a comprehension's block: its own (with their places in N), or captured -/
structure BlkOk (N : List Str) (sc scope : Scope) (own : List (Str × Nat)) : Prop where
  kind : scope.kind = .function
  uniq : ∀ y ∈ scope.names, scope.names.lookup y.1 = some y.2
  ix : ∀ p ∈ own, N[p.2]? = some p.1
  free : ∀ y ∈ scope.names, y.2 = .free → sc.names.lookup y.1 = some .cell ∨ sc.names.lookup y.1 = some .free
  own : ∀ y ∈ scope.names, y.2 = .local ∨ y.2 = .cell → y.1 ∈ own.map (·.1) ∨ y.1 ∉ N
/-- the slots of the block's own names forgotten -/
def wipe (σ : St) : List Nat → St
  | [] => σ
  | v :: vs => (wipe σ vs).set v none
theorem wipe_length (σ : St) : ∀ vs : List Nat, (wipe σ vs).length = σ.length
  | [] => rfl
  | v :: vs => by unfold wipe; rw [List.length_set, wipe_length σ vs]
theorem wipe_some {σ : St} {i : Nat} {x : V} : ∀ {vs : List Nat}, (wipe σ vs)[i]? = some (some x) → σ[i]? = some (some x) ∧ i ∉ vs
  | [], h => ⟨h, by simp⟩
  | v :: vs, h => by
    unfold wipe at h
    by_cases hi : v = i
    · subst hi
      by_cases hv : v < (wipe σ vs).length
      · rw [List.getElem?_set_self hv] at h; cases h
      · rw [List.getElem?_eq_none (by simpa using hv)] at h; cases h
    · rw [List.getElem?_set_ne hi] at h
      obtain ⟨h1, h2⟩ := wipe_some h
      exact ⟨h1, by simp only [List.mem_cons, not_or]; exact ⟨fun e => hi e.symm, h2⟩⟩

/-- the context of a block that starts at s, its iterator's objects at fp -/
abbrev Cx.blk (X : Cx) (s : Shared) (H : Hp) (scope : Scope) (cenv : Env) (fp : List Addr) : Cx := { X with s_0 := s, H_0 := H, env := cenv, outer := X.stack, ex := fp, fn := fun x => scope.names.lookup x == some .cell, pn := [], xe := fun _ _ => False }
section
variable {X : Cx} {pins : List (Addr × Obj)} {σ : St} {H : Hp} {s : Shared}
theorem block_start {scope : Scope} {own : List (Str × Nat)} {fp : List Addr} (I : Inv X pins σ H s) (ok : BlkOk X.N X.env.scope scope own) (hN : X.N.Nodup) (hfp : ∀ b ∈ fp, FpOk X pins H b ∧ b < s.heap.objs.size) :
    Inv (X.blk s H scope (compEnvC scope (cellsFrom (s.heap.objs.size + 1) scope.names (cloFrom X.env.cells scope.names [])) s.heap.objs.size X.env) fp) [] (wipe σ (own.map (·.2))) H { s with heap := pushCells (s.heap.push { cls := .type "dict", data := .dict #[] }) scope.names } := by
  have hfree : ∀ y ∈ scope.names, y.2 = .free → ∃ c, X.env.cells.lookup y.1 = some c := fun y hy e => by
    rcases ok.free y hy e with k | k
    · exact I.ok.has _ (.inl k)
    · exact I.ok.has _ (.inr k)
  generalize hcenv : compEnvC scope (cellsFrom (s.heap.objs.size + 1) scope.names (cloFrom X.env.cells scope.names [])) s.heap.objs.size X.env = cenv
  have kp : ∀ b o, s.heap.get? b = some o → (pushCells (s.heap.push { cls := .type "dict", data := .dict #[] }) scope.names).get? b = some o := fun b o e => pushCells_keeps _ _ _ _ (Heap.get?_push_of_some _ e)
  have hL : cenv.locals = s.heap.objs.size := by rw [← hcenv]; rfl
  have hcl : cenv.cells = cellsFrom (s.heap.objs.size + 1) scope.names (cloFrom X.env.cells scope.names []) := by rw [← hcenv]; rfl
  have hsc : cenv.scope = relS scope X.env.scope := by rw [← hcenv]; rfl
  rw [← Heap.size_push s.heap { cls := .type "dict", data := .dict #[] }] at hcl
  have cm : ∀ {y c}, (y, c) ∈ cloFrom X.env.cells scope.names [] → X.env.cells.lookup y = some c ∧ c < s.heap.objs.size := fun {y c} hm => by
    rcases cloFrom_mem hm with hm | ⟨h1, rfl⟩
    · cases hm
    · obtain ⟨c, hc⟩ := hfree _ h1 rfl
      rw [hc]
      obtain ⟨w, z⟩ := I.cell _ _ hc
      exact ⟨rfl, z.lt⟩
  have mem : ∀ {y c}, cenv.cells.lookup y = some c → (X.env.cells.lookup y = some c ∧ c < s.heap.objs.size) ∨ (s.heap.objs.size + 1 ≤ c ∧ CellAt (pushCells (s.heap.push { cls := .type "dict", data := .dict #[] }) scope.names) c none) := fun {y c} e => by
    rw [hcl] at e
    rcases cells_mem (PySem.mem_of_lookup e) with hm | ⟨_, h2, h3⟩
    · exact .inl (cm hm)
    · rw [Heap.size_push] at h2; exact .inr ⟨h2, h3⟩
  have look : ∀ {y}, scope.names.lookup y = some .free → ∃ c, cenv.cells.lookup y = some c ∧ X.env.cells.lookup y = some c := fun {y} hl => by
    have hy : (y, NameKind.free) ∈ scope.names := PySem.mem_of_lookup hl
    obtain ⟨c', e'⟩ := mem_lookup (cells_acc (names := scope.names) (n := (s.heap.push { cls := .type "dict", data := .dict #[] }).objs.size) (cloFrom_has (cells := X.env.cells) (acc := []) hy))
    rw [← hcl] at e'
    refine ⟨c', e', ?_⟩
    rw [hcl] at e'
    rcases cells_mem (PySem.mem_of_lookup e') with hm | ⟨h1, _, _⟩
    · exact (cm hm).1
    · have := ok.uniq _ h1
      rw [hl] at this; cases this
  have okB : (X.blk s H scope cenv fp).Ok := by
    refine ⟨I.ok.mod, by show cenv.scope.kind = _; rw [hsc]; exact ok.kind, by show cenv.globals = _; rw [← hcenv]; exact I.ok.glob, by show cenv.builtins = _; rw [← hcenv]; exact I.ok.blt, by show s.heap.objs.size ≤ cenv.locals; rw [hL]; exact Nat.le_refl _,
      fun y z c e1 e2 => ?_, fun y hy => ?_, fun y c z e => ?_, I.ok.hd, I.ok.frames, .inl rfl, fun b hb => ⟨?_, fun y c e z => ?_⟩, I.bs, Nat.le_trans I.ok.bsz I.sz, fun b o e hb => ?_, fun b hb z => ?_, I.stack, I.stkFree⟩
    · have e1 : cenv.cells.lookup y = some c := e1
      have e2 : cenv.cells.lookup z = some c := e2
      rw [hcl] at e1 e2
      refine cells_inj (fun p hp => ?_) (fun y z c a b => I.ok.inj y z c (cm a).1 (cm b).1) (PySem.mem_of_lookup e1) (PySem.mem_of_lookup e2)
      rw [Heap.size_push]
      exact Nat.lt_succ_of_lt (cm (y := p.1) (c := p.2) hp).2
    · show ∃ c, cenv.cells.lookup y = some c
      have key : ∀ k, cenv.kindOf y = some k → (k = .cell ∨ k = .free) → ∃ c, cenv.cells.lookup y = some c := fun k hk hk' => by
        unfold Env.kindOf at hk
        rw [hsc] at hk
        obtain ⟨k', e, r⟩ := lookup_relS hk
        have : k' = .cell ∨ k' = .free := by
          rcases r with rfl | ⟨rfl, _⟩
          · exact hk'
          · exact .inr rfl
        rcases this with rfl | rfl
        · obtain ⟨c, hm⟩ := cells_has (n := (s.heap.push { cls := .type "dict", data := .dict #[] }).objs.size) (acc := cloFrom X.env.cells scope.names []) (PySem.mem_of_lookup e)
          obtain ⟨c', e'⟩ := mem_lookup hm
          exact ⟨c', by rw [hcl]; exact e'⟩
        · obtain ⟨c, h1, _⟩ := look e
          exact ⟨c, h1⟩
      rcases hy with hy | hy
      · exact key _ hy (.inl rfl)
      · exact key _ hy (.inr rfl)
    · have z : (scope.names.lookup y == some NameKind.cell) = true := z
      have z : scope.names.lookup y = some .cell := by simpa using z
      have e : cenv.cells.lookup y = some c := e
      rw [hcl] at e
      rcases cells_mem (PySem.mem_of_lookup e) with hm | ⟨_, h2, _⟩
      · rcases cloFrom_mem hm with hm | ⟨h1, _⟩
        · cases hm
        · have q := ok.uniq _ h1
          rw [z] at q; cases q
      · rw [Heap.size_push] at h2
        exact Nat.le_of_succ_le h2
    · show b ≠ cenv.locals
      rw [hL]; exact Nat.ne_of_lt (hfp b hb).2
    · have e : cenv.cells.lookup y = some c := e
      rcases mem e with ⟨h1, _⟩ | ⟨h1, _⟩
      · exact (hfp b hb).1.2.2.2.2.1 y c h1 z
      · have h2 : s.heap.objs.size + 1 ≤ b := by rw [← z]; exact h1
        exact absurd (Nat.lt_of_lt_of_le (hfp b hb).2 (Nat.le_of_succ_le h2)) (Nat.lt_irrefl _)
    · rcases (hfp b hb).1.2.2.2.1 with z | z
      · exact I.ok.noex b o e z
      · exact absurd (Nat.lt_of_lt_of_le (Heap.lt_size e) (Nat.le_trans I.ok.bsz z)) (Nat.lt_irrefl _)
    · rcases List.mem_cons.mp (I.stkSub b z) with z | z
      · exact (hfp b hb).1.2.1 z
      · exact (hfp b hb).1.2.2.1 z
  refine ⟨okB, rfl, I.bare, Un.kept kp, ⟨fun _ => none, ?_, fun i y av e1 e2 e3 => ?_⟩, fun y c e => ?_, ?_, fun y c e => ?_, fun p hp => ?_, I.hok.kept kp, by rw [wipe_length]; exact I.len⟩
  · show Heap.Ns _ cenv.locals _
    rw [hL]
    exact Heap.Ns.keeps (Heap.Ns.new ..) fun b o e => pushCells_keeps _ _ _ _ e
  · obtain ⟨e2, hne⟩ := wipe_some e2
    have hfr : scope.names.lookup y = some .free ∧ (cenv.kindOf y = some .cell ∨ cenv.kindOf y = some .free) := by
      have key : ∀ k, cenv.scope.names.lookup y = some k → k = .local ∨ k = .cell ∨ k = .free → scope.names.lookup y = some .free ∧ (cenv.kindOf y = some .cell ∨ cenv.kindOf y = some .free) := fun k hk hk' => by
        have hk0 := hk
        rw [hsc] at hk
        obtain ⟨k', e, r⟩ := lookup_relS hk
        have no : ¬ (k' = .local ∨ k' = .cell) := fun hh => by
          rcases ok.own _ (PySem.mem_of_lookup e) hh with e' | e'
          · obtain ⟨p, hp, hpy⟩ := List.mem_map.mp e'
            have e3 := ok.ix p hp
            have : p.1 = y := hpy
            rw [this] at e3
            exact hne (List.mem_map.mpr ⟨p, hp, nodup_ix hN e3 e1⟩)
          · exact e' (List.mem_of_getElem? e1)
        rcases r with rfl | ⟨rfl, rfl⟩
        · rcases hk' with rfl | rfl | rfl
          · exact absurd (.inl rfl) no
          · exact absurd (.inr rfl) no
          · exact ⟨e, .inr hk0⟩
        · exact ⟨e, .inl hk0⟩
      have e3 : Vis cenv.scope y := e3
      rcases e3 with e3 | e3 | e3
      · exact key _ e3 (.inl rfl)
      · exact key _ e3 (.inr (.inl rfl))
      · exact key _ e3 (.inr (.inr rfl))
    obtain ⟨m, hn, hl⟩ := I.loc
    have hvis : Vis X.env.scope y := (ok.free _ (PySem.mem_of_lookup hfr.1) rfl).elim (fun k => .inr (.inl k)) (fun k => .inr (.inr k))
    obtain ⟨w, r, q⟩ := hl i y av e1 e2 hvis
    refine ⟨w, r, .inr ⟨hfr.2, ?_⟩⟩
    obtain ⟨c, h1, h2⟩ := look hfr.1
    rcases q with ⟨k, _⟩ | ⟨_, c', e', z⟩
    · have k : X.env.scope.names.lookup y = some .local := k
      rcases ok.free _ (PySem.mem_of_lookup hfr.1) rfl with k' | k' <;> rw [show X.env.scope.names.lookup y = _ from k'] at k <;> cases k
    · rw [h2] at e'; cases e'
      exact ⟨c, h1, z.keeps kp⟩
  · have e : cenv.cells.lookup y = some c := e
    rcases mem e with ⟨h1, _⟩ | ⟨_, z⟩
    · obtain ⟨w, z⟩ := I.cell y c h1
      exact ⟨w, z.keeps kp⟩
    · exact ⟨_, z⟩
  · show H cenv.locals = none
    rw [hL]; exact I.hok.fresh (Nat.le_refl _)
  · have e : cenv.cells.lookup y = some c := e
    rcases mem e with ⟨h1, _⟩ | ⟨h1, _⟩
    · exact I.freeC y c h1
    · exact I.hok.fresh (Nat.le_of_succ_le h1)
  · exact absurd (show p ∈ ([] : List (Addr × Obj)) ++ [] from hp) (by simp)

/-- an item appended to a tracked list -/
theorem app_ok {E : Value → Shared → Prop} {D : Addr} {xs : List V} {y : V} {v : Value} {Q : Value → Shared → Prop} (I : Inv X pins σ H s) (hD : H D = some (.lst xs)) (hz : xs.length < sizeLine) (r : RelV y v)
    (h : ∀ s', Inv X pins σ (upd H D (.lst (xs ++ [y]))) s' → Q .none s') : wpAny (model X.prog X.w) X.A (call (.builtin "list.append") [.ref D, v]) Q E s := by
  obtain ⟨hz', its, n, ri, e⟩ := I.hok D _ hD
  have hl := ri.length
  refine append_at (hsz := by rw [List.size_toArray]; omega) e fun h' sb ho' => ?_
  refine h { s with heap := h' } (I.write (t' := s.toks) (by rw [hD]; trivial) (.inl rfl) (fun b u hb q => (sb.2 b hb).trans q) ⟨_, ho'⟩ ⟨by rw [List.length_append]; exact hz, its ++ [v], n + 1, ri.append (.cons r .nil), ?_⟩)
  rw [ho']
  simp

/-- a clause's tests -/
def PTs (X : Cx) (ifs : List Expr) (t : TT) : Prop :=
  ∀ (pins : List (Addr × Obj)) (s : Shared) (σ : St) (H : Hp) (Q : Bool → Hp → Prop), Inv X pins σ H s → t σ H Q →
    wpAny (model X.prog X.w) X.A (forIn ifs true fun c r => if r = true then do let ok ← isTrue c X.env (eval c X.env); pure (ForInStep.yield ok) else pure (ForInStep.yield r)) (TP X pins σ Q) X.xe s
def tYes : TT := fun _ H Q => Q true H
theorem pts_nil : PTs X [] tYes := fun _ _ _ H _ I h => wpAny_tests_nil ⟨H, I, h⟩
theorem pts_one {c : Expr} {t : TT} (h : PT X c t) : PTs X [c] t := fun pins s σ H Q I hw => wpAny_tests_one (h pins s σ H Q I hw)
end

theorem thnF {α : Type} {t : Sem α} {Q Q' : α → Shared → Prop} {M : Model} {A : Around} {E : Value → Shared → Prop} {s : Shared} (h : wpAny M A t Q (fun _ _ => False) s) (hQ : ∀ a s, Q a s → Q' a s) : wpAny M A t Q' E s := wpAny_mono h hQ fun _ _ z => False.elim z

/-- the loop of a list comprehension's block, the target of any form (codeAny_compLoop_tests asks a target that no tuple goes to; statement and proof follow it, PyProof/CompMap.lean:41-61, with the step letOwnedTupleGo kept) -/
theorem compLoop_any {prog : Program} {w : World} {A : Around} {R : Result → Shared → Prop} {s : Shared} {elt target iter : Expr} {ifs : List Expr} {scope : Scope} {pos : Pos} {it acc : Value} {env : Env} (I : Nat → Shared → Prop)
    (turn : ∀ n s, I n s → wpAny (model prog w) A (pyNext it) (fun r s₁ => match r with
      | none => R (.ok .next) s₁
      | some v => wpAny (model prog w) A (letOwnedTupleGo target it v) (fun _ s₁' => wpAny (model prog w) A (assign target env v) (fun _ s₂ =>
          wpAny (model prog w) A (forIn ifs true fun c r => if r = true then do let ok ← isTrue c env (eval c env); pure (ForInStep.yield ok) else pure (ForInStep.yield r)) (fun ok s₃ =>
            if ok = true then wpAny (model prog w) A (eval elt env) (fun x s₄ =>
              wpAny (model prog w) A (call (.builtin "list.append") [acc, x]) (fun _ s₅ => ∃ m, m < n ∧ I m s₅) (notedBy (model prog w) A env fun e s' => R (.error e) s') s₄) (notedBy (model prog w) A env fun e s' => R (.error e) s') s₃
            else ∃ m, m < n ∧ I m s₃) (notedBy (model prog w) A env fun e s' => R (.error e) s') s₂) (notedBy (model prog w) A env fun e s' => R (.error e) s') s₁') (notedBy (model prog w) A env fun e s' => R (.error e) s') s₁) (notedBy (model prog w) A env fun e s' => R (.error e) s') s)
    (n : Nat) (h : I n s) :
    codeAny (model prog w) A (.compLoop (.ListComp elt [⟨target, iter, ifs, 0⟩] scope pos) 0 it acc env) R s := by
  refine codeAny_loop rfl I (fun n s hI => ?_) n h
  show wpAny _ A ((compTurn (.ListComp elt [⟨target, iter, ifs, 0⟩] scope pos) 0 it acc env).onRaise (fun x => do noteFrame x env; theTreesLotGoes x)) _ _ s
  refine wpAny_noted ?_
  rw [compTurn_list]
  refine wpAny_bind (wpAny_standAt (wpAny_bind (wpAny_mono (turn n s hI) (fun r s₁ h₁ => ?_) fun _ _ h' => h')))
  cases r with
  | none => exact wpAny_pure h₁
  | some v =>
    refine wpAny_bind (wpAny_mono h₁ (fun _ s₁' h₁' => ?_) fun _ _ h' => h')
    refine wpAny_bind (wpAny_mono h₁' (fun _ s₂ h₂ => wpAny_bind (wpAny_mono h₂ (fun ok s₃ h₃ => ?_) fun _ _ h' => h')) fun _ _ h' => h')
    cases ok with
    | false => exact wpAny_pure ⟨rfl, h₃⟩
    | true =>
      exact wpAny_bind (wpAny_bind (wpAny_mono h₃ (fun x s₄ h₄ => wpAny_bind (wpAny_mono h₄ (fun _ s₅ h₅ => wpAny_pure (wpAny_pure ⟨rfl, h₅⟩)) fun _ _ h' => h')) fun _ _ h' => h'))

section
variable {X : Cx}
/-- [elt for target in iter if ..]: D the new list; W by the turn and a measure, Nx what a turn is to reach -/
def tLc (wi : TI) (g : TG) (tt : TT) (te : TE) (vs : List Nat) : TE := fun σ H Q => wi σ H fun J H1 => ∀ D, H1 D = none → ∃ W : Nat → Nat → Hp → Prop, (∃ m, W 0 m (upd H1 D (.lst []))) ∧ ∀ i m H, W i m H →
  (J.stop i H ∧ Q (.ref D) H) ∨ (J.go i H ∧ ∃ Nx : Hp → Prop, (∀ H', Nx H' → ∃ m', m' < m ∧ W (i + 1) m' H') ∧ ∀ x H', J.yld i H x H' → g x (wipe σ vs) H' fun σ2 H2 => wipe σ2 vs = wipe σ vs ∧ tt σ2 H2 fun b H3 =>
    if b = true then te σ2 H3 fun y H4 => ∃ acc, H4 D = some (.lst acc) ∧ acc.length < sizeLine ∧ Nx (upd H4 D (.lst (acc ++ [y]))) else Nx H3)
theorem lc_core {pins : List (Addr × Obj)} {s : Shared} {σ : St} {H : Hp} {Q : VK} {elt tg iter : Expr} {ifs : List Expr} {scope : Scope} {own : List (Str × Nat)} {pos pos' : Pos} {wi : TI} {g : TG} {tt : TT} {te : TE} {use : Option (Value → Sem Unit)} {Qf : Value → Shared → Prop}
    (hc : X.calm = true) (hN : X.N.Nodup) (I : Inv X pins σ H s) (hi : PI X tg iter wi) (ok : BlkOk X.N X.env.scope scope own)
    (hg : ∀ (s : Shared) (H : Hp) (C : Addr) (cl : List (Str × Addr)) (fp : List Addr), PG (X.blk s H scope (compEnvC scope cl C X.env) fp) tg g) (ht : ∀ (s : Shared) (H : Hp) (C : Addr) (cl : List (Str × Addr)) (fp : List Addr), PTs (X.blk s H scope (compEnvC scope cl C X.env) fp) ifs tt)
    (he : ∀ (s : Shared) (H : Hp) (C : Addr) (cl : List (Str × Addr)) (fp : List Addr), PE (X.blk s H scope (compEnvC scope cl C X.env) fp) elt te) (hs : ∀ x, foldedSetIterable iter X.env x = pure x)
    (h : tLc wi g tt te (own.map (·.2)) σ H Q)
    (hRR : ∀ D C s' m H', Inv X pins σ H' s' → Q (.ref D) H' → s'.heap.Ns C m → FpOk X pins H' C → compPost (model X.prog X.w) X.A X.xe use Qf (.ref D) C (.ok .next) s') :
    wpAny (model X.prog X.w) X.A (comprehension (.ListComp elt [⟨tg, iter, ifs, 0⟩] scope pos) scope X.env pos' (newList []) false (eval iter X.env) use) Qf X.xe s := by
  have hfree : ∀ y ∈ scope.names, y.2 = .free → ∃ c, X.env.cells.lookup y.1 = some c := fun y hy e => by
    rcases ok.free y hy e with k | k
    · exact I.ok.has _ (.inl k)
    · exact I.ok.has _ (.inr k)
  refine wpAny_comprehension_free (use := use) rfl hs (closure_ok hfree) ok.kind (fun y hy e => by rw [ok.uniq y hy, e])
    (thn (hi pins s σ H _ I h) fun xv s1 hx => thn hx fun itv s2 h2 => ?_)
  obtain ⟨it, fp, tn, J, H2, e, I2, T, st2, f2, q⟩ := h2
  subst e
  refine wpAny_newObj_type (newEnv_comp ?_) (by show 0 ≤ sizeLine; decide)
  generalize hD : s2.heap.objs.size = D
  have hDn : H2 D = none := I2.hok.fresh (Nat.le_of_eq hD)
  obtain ⟨W, ⟨m0, w0⟩, turn⟩ := q D hDn
  -- the new list
  generalize hs3 : ({ s2 with heap := s2.heap.push { cls := .type "list", data := .seq ([] : List Value).toArray } } : Shared) = s3
  have I3 : Inv X pins σ (upd H2 D (.lst [])) s3 := by
    rw [← hs3]
    refine I2.laid (t' := s2.toks) (fun b o e => Heap.get?_push_of_some _ e) (Nat.le_of_eq hD) ⟨Nat.zero_le _, [], 0, .nil, ?_⟩
    rw [← hD]
    exact Heap.get?_push_size _ rfl
  have h3 : s3.heap = s2.heap.push { cls := .type "list", data := .seq ([] : List Value).toArray } := by rw [← hs3]
  have sz : ∀ b ∈ fp, b < s2.heap.objs.size := fun b hb => by
    obtain ⟨o, e, _⟩ := T.obj _ _ st2 b hb
    exact Heap.lt_size e
  have f3 : ∀ b ∈ fp, FpOk X pins (upd H2 D (.lst [])) b ∧ b < s3.heap.objs.size := fun b hb => by
    have hlt := sz b hb
    refine ⟨⟨?_, (f2 b hb).2⟩, by rw [h3, Heap.size_push]; exact Nat.lt_succ_of_lt hlt⟩
    rw [upd_ne (by rw [← hD]; exact Nat.ne_of_lt hlt)]
    exact (f2 b hb).1
  have st3 : tn 0 s3.heap := T.keep _ _ _ st2 fun b _ o e => by rw [h3]; exact Heap.get?_push_of_some _ e
  have I4 := block_start I3 ok hN f3
  have pg := hg s3 (upd H2 D (.lst [])) s3.heap.objs.size (cellsFrom (s3.heap.objs.size + 1) scope.names (cloFrom X.env.cells scope.names [])) fp
  have pt := ht s3 (upd H2 D (.lst [])) s3.heap.objs.size (cellsFrom (s3.heap.objs.size + 1) scope.names (cloFrom X.env.cells scope.names [])) fp
  have pe := he s3 (upd H2 D (.lst [])) s3.heap.objs.size (cellsFrom (s3.heap.objs.size + 1) scope.names (cloFrom X.env.cells scope.names [])) fp
  show codeAny _ _ (.compStart (.ListComp elt [⟨tg, iter, ifs, 0⟩] scope pos) 0 (.ref it) (.ref D) (compEnvC scope (cellsFrom (s3.heap.objs.size + 1) scope.names (cloFrom X.env.cells scope.names [])) s3.heap.objs.size X.env)) (compPost (model X.prog X.w) X.A X.xe use Qf (.ref D) s3.heap.objs.size) { s3 with heap := pushCells (s3.heap.push { cls := .type "dict", data := .dict #[] }) scope.names }
  have nfp : ∀ b ∈ fp, (upd H2 D (.lst [])) b = none := fun b hb => (f3 b hb).1.1
  generalize hce : compEnvC scope (cellsFrom (s3.heap.objs.size + 1) scope.names (cloFrom X.env.cells scope.names [])) s3.heap.objs.size X.env = ce at I4 pg pt pe ⊢
  have cL : ce.locals = s3.heap.objs.size := by subst hce; rfl
  generalize hH3 : upd H2 D (.lst []) = H3 at I3 I4 pg pt pe w0 nfp f3
  generalize hs4 : ({ s3 with heap := pushCells (s3.heap.push { cls := .type "dict", data := .dict #[] }) scope.names } : Shared) = s4 at I4 ⊢
  have st4 : tn 0 s4.heap := T.keep _ _ _ st3 fun b _ o e => by rw [← hs4]; exact pushCells_keeps _ _ _ _ (Heap.get?_push_of_some _ e)
  have stat : ∀ {σ' : St} {H' : Hp} {s' : Shared}, Inv (X.blk s3 H3 scope ce fp) [] σ' H' s' → (∀ b ∈ fp, H' b = none) → ∀ b ∈ fp, FpOk (X.blk s3 H3 scope ce fp) [] H' b := fun {σ' H' s'} I' hn b hb =>
    ⟨hn b hb, (I'.ok.exf b hb).1, I'.ok.exfs b hb, .inl hb, fun x c e => (I'.ok.exf b hb).2 x c e, fun p hp => absurd (show p ∈ ([] : List (Addr × Obj)) ++ [] from hp) (by simp)⟩
  have loop : codeAny (model X.prog X.w) X.A (.compLoop (.ListComp elt [⟨tg, iter, ifs, 0⟩] scope pos) 0 (.ref it) (.ref D) ce) (compPost (model X.prog X.w) X.A X.xe use Qf (.ref D) s3.heap.objs.size) s4 := by
    refine compLoop_any (fun n s' => ∃ i H', Inv (X.blk s3 H3 scope ce fp) [] (wipe σ (own.map (·.2))) H' s' ∧ tn i s'.heap ∧ (∀ b ∈ fp, H' b = none) ∧ W i n H') ?_ m0 ⟨0, H3, I4, st4, nfp, w0⟩
    rintro n s5 ⟨i, H5, I5, st5, n5, w5⟩
    rcases turn i n H5 w5 with ⟨stop, qq⟩ | ⟨go, Nx, hNx, step⟩
    · have td := T.done (X.blk s3 H3 scope ce fp) rfl rfl rfl hc i [] s5 _ H5 (fun _ _ => False) I5 (stat I5 n5) st5 stop
      refine thnF td fun r s6 ⟨hr, I6⟩ => ?_
      subst hr
      -- back in the def's context
      have I7 : Inv X pins σ H5 s6 := I3.call' (ch := fp) I6.os I6.base I6.hok I6.bare fun b hb => ⟨(f3 b hb).1.2.2.2.1, (f3 b hb).1.2.1, (f3 b hb).1.2.2.2.2.1, (f3 b hb).1.2.2.2.2.2⟩
      have nC : H5 s3.heap.objs.size = none := by
        have z : H5 ce.locals = none := I6.free
        rw [cL] at z
        exact z
      obtain ⟨m, hn, _⟩ := I6.loc
      have hn : s6.heap.Ns ce.locals m := hn
      rw [cL] at hn
      exact hRR D s3.heap.objs.size s6 m H5 I7 qq hn (I3.fpOk (Nat.le_refl _) nC)
    · have ti := T.item (X.blk s3 H3 scope ce fp) rfl rfl rfl hc i [] s5 _ H5 (fun _ _ => False) I5 (stat I5 n5) st5 go
      refine thnF ti fun r s6 ⟨u, hr, h6⟩ => ?_
      subst hr
      refine thnF h6 fun _ s7 ⟨x, H7, I7, r7, y7, st7, n7⟩ => ?_
      have I7' := I7.pinned (stat I7 n7) (T.obj _ _ st7)
      refine thnF (pg _ s7 _ H7 x u _ I7' r7 (step x H7 y7)) fun _ s8 ⟨σ8, H8, I8, hw8, q8⟩ => ?_
      refine thnF (pt _ s8 σ8 H8 _ I8 q8) fun b s9 ⟨H9, I9, q9⟩ => ?_
      -- the turn's end
      have fin : ∀ {s' : Shared} {H' : Hp}, Inv (X.blk s3 H3 scope ce fp) ([] ++ pinsAt fp s7.heap) σ8 H' s' → Nx H' → ∃ m, m < n ∧ ∃ i H', Inv (X.blk s3 H3 scope ce fp) [] (wipe σ (own.map (·.2))) H' s' ∧ tn i s'.heap ∧ (∀ b ∈ fp, H' b = none) ∧ W i m H' := fun {s' H'} I' nx => by
        obtain ⟨m', hm, w'⟩ := hNx H' nx
        have pin' : ∀ b ∈ fp, ∀ o, s7.heap.get? b = some o → s'.heap.get? b = some o ∧ H' b = none := fun b hb o e =>
          let z := I'.pin (b, o) (List.mem_append_right _ (List.mem_append_right _ (mem_pinsAt hb e)))
          ⟨z.1, z.2.1⟩
        have hl : (wipe σ (own.map (·.2))).length = σ8.length := by rw [← hw8, wipe_length]
        refine ⟨m', hm, i + 1, H', (I'.unpinned (pins := [])).weak hl (fun j v e => ?_), T.keep _ _ _ st7 fun b hb o e => (pin' b hb o e).1, fun b hb => ?_, w'⟩
        · rw [← hw8] at e
          exact (wipe_some e).1
        · obtain ⟨o, e, _⟩ := T.obj _ _ st7 b hb
          exact (pin' b hb o e).2
      cases b with
      | false =>
        simp only [Bool.false_eq_true, if_false] at q9 ⊢
        exact fin I9 q9
      | true =>
        simp only [if_true] at q9 ⊢
        refine thnF (pe _ s9 σ8 H9 _ I9 q9) fun z s10 ⟨yv, H10, I10, r10, acc, hD10, hz10, nx⟩ => ?_
        exact app_ok (X := X.blk s3 H3 scope ce fp) I10 hD10 hz10 r10 fun s11 I11 => fin I11 nx
  exact codeAny_compStart_list loop (T.self X.A 0 _ _ _ st4 loop)
/-- as a value -/
theorem pe_lc {elt tg iter : Expr} {ifs : List Expr} {scope : Scope} {own : List (Str × Nat)} {pos : Pos} {wi : TI} {g : TG} {tt : TT} {te : TE} (hc : X.calm = true) (hN : X.N.Nodup) (hi : PI X tg iter wi) (ok : BlkOk X.N X.env.scope scope own)
    (hg : ∀ (s : Shared) (H : Hp) (C : Addr) (cl : List (Str × Addr)) (fp : List Addr), PG (X.blk s H scope (compEnvC scope cl C X.env) fp) tg g) (ht : ∀ (s : Shared) (H : Hp) (C : Addr) (cl : List (Str × Addr)) (fp : List Addr), PTs (X.blk s H scope (compEnvC scope cl C X.env) fp) ifs tt)
    (he : ∀ (s : Shared) (H : Hp) (C : Addr) (cl : List (Str × Addr)) (fp : List Addr), PE (X.blk s H scope (compEnvC scope cl C X.env) fp) elt te) (hs : ∀ x, foldedSetIterable iter X.env x = pure x := by intro _; rfl) :
    PE X (.ListComp elt [⟨tg, iter, ifs, 0⟩] scope pos) (tLc wi g tt te (own.map (·.2))) := by
  intro pins s σ H Q I h
  rw [eval_ListComp]
  refine lc_core hc hN I hi ok hg ht he hs h fun D C s' m H' I' q hn f => ⟨m, hn, fun h'' sb => ?_⟩
  obtain ⟨f0, f1, f2, f3, f4, f5⟩ := f
  exact ⟨.ref D, H', I'.turned (t' := s'.toks) (fun b o hb e => (sb.2 b hb).trans e) f0 f1 f3 f4 f5, rfl, q⟩
/-- name = [..] on one line, the name a local -/
theorem ps_setLc {i : Nat} {y : Str} {py : Pos} {elt tg iter : Expr} {ifs : List Expr} {scope : Scope} {own : List (Str × Nat)} {pos spos : Pos} {wi : TI} {g : TG} {tt : TT} {te : TE} (hc : X.calm = true) (hN : X.N.Nodup) (hy : X.N[i]? = some y) (hyl : X.env.scope.names.lookup y = some .local)
    (hsw : swapsWith (.ListComp elt [⟨tg, iter, ifs, 0⟩] scope pos) (some (.Name y py)) spos.line X.env = pure true) (hi : PI X tg iter wi) (ok : BlkOk X.N X.env.scope scope own)
    (hg : ∀ (s : Shared) (H : Hp) (C : Addr) (cl : List (Str × Addr)) (fp : List Addr), PG (X.blk s H scope (compEnvC scope cl C X.env) fp) tg g) (ht : ∀ (s : Shared) (H : Hp) (C : Addr) (cl : List (Str × Addr)) (fp : List Addr), PTs (X.blk s H scope (compEnvC scope cl C X.env) fp) ifs tt)
    (he : ∀ (s : Shared) (H : Hp) (C : Addr) (cl : List (Str × Addr)) (fp : List Addr), PE (X.blk s H scope (compEnvC scope cl C X.env) fp) elt te) (hs : ∀ x, foldedSetIterable iter X.env x = pure x := by intro _; rfl) :
    PS X (.Assign [.Name y py] (.ListComp elt [⟨tg, iter, ifs, 0⟩] scope pos) spos) (tAsg (tLc wi g tt te (own.map (·.2))) (gName i)) := by
  intro pins s σ H D I h
  rw [exec_Assign_Name_used _ _ _ _ hsw]
  refine wpAny_bind (wpAny_standAt (wpAny_bind ?_))
  show wpAny _ X.A (do let _ ← comprehension (.ListComp elt [⟨tg, iter, ifs, 0⟩] scope pos) scope X.env (firstIterPos [⟨tg, iter, ifs, 0⟩] pos) (newList []) false (eval iter X.env) (some (assign (.Name y py) X.env))) _ _ s
  have h : tLc wi g tt te (own.map (·.2)) σ H (fun x H1 => gName i x σ H1 D.nx) := h
  refine wpAny_bind (thn (lc_core (Qf := fun _ s' => SP X pins D .next s') hc hN I hi ok hg ht he hs h fun L C s' m H' I' q hn f => ?_) fun _ s' hq => wpAny_pure (wpAny_pure hq))
  show wpAny _ _ (assign (.Name y py) X.env (.ref L)) _ _ _
  refine wpAny_assign_Name (store_ok2 (v := V.ref L) I' hN hy (.inl hyl) rfl (fun s2 I2 ⟨a, sb, ha⟩ => ?_) (.inr hyl))
  obtain ⟨f0, f1, f2, f3, f4, f5⟩ := f
  have haC : C ≠ a := by
    rcases ha with z | z
    · rw [z]; exact f1
    · exact fun e => f4 y a z e.symm
  refine ⟨m, hn.sameBut sb haC, fun h3 sb3 => ?_⟩
  exact ⟨_, H', I2.turned (t' := s2.toks) (fun b o hb e => (sb3.2 b hb).trans e) f0 f1 f3 f4 f5, q⟩
theorem sw_true {elt : Expr} {gs : List Comprehension} {scope : Scope} {pos py : Pos} {y : Str} {l : Nat} {env : Env} (hk : env.scope.kind = .function) (hy : env.scope.names.lookup y = some .local) (hl : (py.line == pos.line) = true)
    (ha : (scope.names.any fun (n, k) => n == y && (k == .local || k == .cell)) = false) : swapsWith (.ListComp elt gs scope pos) (some (.Name y py)) l env = pure true := by
  have ky : env.kindOf y = some .local := hy
  have hb : env.blockKind = .function := by unfold Env.blockKind; rw [hk]; rfl
  unfold swapsWith
  simp only [hb, ky, ha, Expr.pos, hl]
  rfl
end

/-! ### the forms one uses -/
/-- over a range: Pv by the turn and the heap (the new list at D within) -/
theorem lc_range {lo : Int} {n : Nat} {g : TG} {tt : TT} {te : TE} {vs : List Nat} {σ : St} {H1 : Hp} {D : Addr} {Qd : Hp → Prop} (Pv : Nat → Hp → Prop) (h0 : Pv 0 (upd H1 D (.lst [])))
    (hs : ∀ i H, i < n → Pv i H → g (.int (lo + i)) (wipe σ vs) H fun σ2 H2 => wipe σ2 vs = wipe σ vs ∧ tt σ2 H2 fun b H3 =>
      if b = true then te σ2 H3 fun y H4 => ∃ acc, H4 D = some (.lst acc) ∧ acc.length < sizeLine ∧ Pv (i + 1) (upd H4 D (.lst (acc ++ [y]))) else Pv (i + 1) H3) (hd : ∀ H, Pv n H → Qd H) :
    ∃ W : Nat → Nat → Hp → Prop, (∃ m, W 0 m (upd H1 D (.lst []))) ∧ ∀ i m H, W i m H →
      ((Itr lo n).stop i H ∧ Qd H) ∨ ((Itr lo n).go i H ∧ ∃ Nx : Hp → Prop, (∀ H', Nx H' → ∃ m', m' < m ∧ W (i + 1) m' H') ∧ ∀ x H', (Itr lo n).yld i H x H' → g x (wipe σ vs) H' fun σ2 H2 => wipe σ2 vs = wipe σ vs ∧ tt σ2 H2 fun b H3 =>
        if b = true then te σ2 H3 fun y H4 => ∃ acc, H4 D = some (.lst acc) ∧ acc.length < sizeLine ∧ Nx (upd H4 D (.lst (acc ++ [y]))) else Nx H3) := by
  refine ⟨fun i m H => m = n - i ∧ i ≤ n ∧ Pv i H, ⟨n, by simp, Nat.zero_le _, h0⟩, ?_⟩
  rintro i m H ⟨rfl, hi, p⟩
  by_cases hlt : i < n
  · refine .inr ⟨hlt, Pv (i + 1), fun H' p' => ⟨n - (i + 1), by omega, rfl, hlt, p'⟩, fun x H' y => ?_⟩
    obtain ⟨e, y⟩ := y
    subst e y
    exact hs i _ hlt p
  · have e : i = n := by omega
    subst e
    exact .inl ⟨Nat.le_refl _, hd H p⟩
/-- over a list that the block leaves as it is -/
theorem lc_list {K : PySem.W.Frag} {a : Addr} {xs : List V} {g : TG} {tt : TT} {te : TE} {vs : List Nat} {σ : St} {H1 : Hp} {D : Addr} {Qd : Hp → Prop} (Pv : Nat → Hp → Prop) (h0 : Pv 0 (upd H1 D (.lst []))) (hl : ∀ i H, i ≤ xs.length → Pv i H → SqL K H a xs)
    (hs : ∀ i x H, xs[i]? = some x → Pv i H → g x (wipe σ vs) H fun σ2 H2 => wipe σ2 vs = wipe σ vs ∧ tt σ2 H2 fun b H3 =>
      if b = true then te σ2 H3 fun y H4 => ∃ acc, H4 D = some (.lst acc) ∧ acc.length < sizeLine ∧ Pv (i + 1) (upd H4 D (.lst (acc ++ [y]))) else Pv (i + 1) H3) (hd : ∀ H, Pv xs.length H → Qd H) :
    ∃ W : Nat → Nat → Hp → Prop, (∃ m, W 0 m (upd H1 D (.lst []))) ∧ ∀ i m H, W i m H →
      ((Itl K a).stop i H ∧ Qd H) ∨ ((Itl K a).go i H ∧ ∃ Nx : Hp → Prop, (∀ H', Nx H' → ∃ m', m' < m ∧ W (i + 1) m' H') ∧ ∀ x H', (Itl K a).yld i H x H' → g x (wipe σ vs) H' fun σ2 H2 => wipe σ2 vs = wipe σ vs ∧ tt σ2 H2 fun b H3 =>
        if b = true then te σ2 H3 fun y H4 => ∃ acc, H4 D = some (.lst acc) ∧ acc.length < sizeLine ∧ Nx (upd H4 D (.lst (acc ++ [y]))) else Nx H3) := by
  refine ⟨fun i m H => m = xs.length - i ∧ i ≤ xs.length ∧ Pv i H, ⟨xs.length, by simp, Nat.zero_le _, h0⟩, ?_⟩
  rintro i m H ⟨rfl, hi, p⟩
  have q := hl i H hi p
  by_cases hlt : i < xs.length
  · refine .inr ⟨⟨xs, xs[i], q, by simp [hlt]⟩, Pv (i + 1), fun H' p' => ⟨xs.length - (i + 1), by omega, rfl, hlt, p'⟩, fun x H' y => ?_⟩
    obtain ⟨e, y⟩ := y
    subst e
    exact hs i x _ (y xs q) p
  · have e : i = xs.length := by omega
    subst e
    exact .inl ⟨⟨xs, q, Nat.le_refl _⟩, hd H p⟩
/-- over a tuple -/
theorem lc_tup {K : PySem.W.Frag} {a : Addr} {xs : List V} {g : TG} {tt : TT} {te : TE} {vs : List Nat} {σ : St} {H1 : Hp} {D : Addr} {Qd : Hp → Prop} (Pv : Nat → Hp → Prop) (h0 : Pv 0 (upd H1 D (.lst []))) (hl : ∀ i H, i ≤ xs.length → Pv i H → SqT K H a xs)
    (hs : ∀ i x H, xs[i]? = some x → Pv i H → g x (wipe σ vs) H fun σ2 H2 => wipe σ2 vs = wipe σ vs ∧ tt σ2 H2 fun b H3 =>
      if b = true then te σ2 H3 fun y H4 => ∃ acc, H4 D = some (.lst acc) ∧ acc.length < sizeLine ∧ Pv (i + 1) (upd H4 D (.lst (acc ++ [y]))) else Pv (i + 1) H3) (hd : ∀ H, Pv xs.length H → Qd H) :
    ∃ W : Nat → Nat → Hp → Prop, (∃ m, W 0 m (upd H1 D (.lst []))) ∧ ∀ i m H, W i m H →
      ((Itt K a).stop i H ∧ Qd H) ∨ ((Itt K a).go i H ∧ ∃ Nx : Hp → Prop, (∀ H', Nx H' → ∃ m', m' < m ∧ W (i + 1) m' H') ∧ ∀ x H', (Itt K a).yld i H x H' → g x (wipe σ vs) H' fun σ2 H2 => wipe σ2 vs = wipe σ vs ∧ tt σ2 H2 fun b H3 =>
        if b = true then te σ2 H3 fun y H4 => ∃ acc, H4 D = some (.lst acc) ∧ acc.length < sizeLine ∧ Nx (upd H4 D (.lst (acc ++ [y]))) else Nx H3) := by
  refine ⟨fun i m H => m = xs.length - i ∧ i ≤ xs.length ∧ Pv i H, ⟨xs.length, by simp, Nat.zero_le _, h0⟩, ?_⟩
  rintro i m H ⟨rfl, hi, p⟩
  have q := hl i H hi p
  by_cases hlt : i < xs.length
  · refine .inr ⟨⟨xs, xs[i], q, by simp [hlt]⟩, Pv (i + 1), fun H' p' => ⟨xs.length - (i + 1), by omega, rfl, hlt, p'⟩, fun x H' y => ?_⟩
    obtain ⟨e, y⟩ := y
    subst e
    exact hs i x _ (y xs q) p
  · have e : i = xs.length := by omega
    subst e
    exact .inl ⟨⟨xs, q, Nat.le_refl _⟩, hd H p⟩
def blkC (N : List Str) (sc scope : Scope) (own : List (Str × Nat)) : Bool :=
  (match scope.kind with | .function => true | _ => false) && (scope.names.all fun y => decide (scope.names.lookup y.1 = some y.2)) && (own.all fun p => decide (N[p.2]? = some p.1)) &&
    (scope.names.all fun y => match y.2 with
      | .free => (match sc.names.lookup y.1 with | some .cell => true | some .free => true | _ => false)
      | .local => decide (y.1 ∈ own.map (·.1)) || decide (y.1 ∉ N)
      | .cell => decide (y.1 ∈ own.map (·.1)) || decide (y.1 ∉ N)
      | _ => true)
theorem blkOk_by {N : List Str} {sc scope : Scope} {own : List (Str × Nat)} (h : blkC N sc scope own = true) : BlkOk N sc scope own := by
  unfold blkC at h
  simp only [Bool.and_eq_true, List.all_eq_true, decide_eq_true_eq] at h
  obtain ⟨⟨⟨h1, h2⟩, h3⟩, h4⟩ := h
  refine ⟨?_, h2, h3, fun y hy e => ?_, fun y hy e => ?_⟩
  · split at h1
    · assumption
    · cases h1
  · have q := h4 y hy
    simp only [e] at q
    split at q <;> first | exact .inl (by assumption) | exact .inr (by assumption) | cases q
  · have q := h4 y hy
    rcases e with e | e <;> (simp only [e, Bool.or_eq_true, decide_eq_true_eq] at q; exact q)
end L2

namespace L2
open PySem PySem.Spec PyProof.Rows

theorem compTurn2_out (elt t0 i0 t1 i1 : Expr) (ifs0 ifs1 : List Expr) (scope : Scope) (pos : Pos) (it acc : Value) (env : Env) :
    compTurn (.ListComp elt [⟨t0, i0, ifs0, 0⟩, ⟨t1, i1, ifs1, 0⟩] scope pos) 0 it acc env = (do
      standAt i0.pos
      match ← pyNext it with
      | none => pure (.done .next)
      | some v =>
        letOwnedTupleGo t0 it v
        assign t0 env v
        let mut ok := true
        for c in ifs0 do
          if ok then ok ← isTrue c env (eval c env)
        if ok then
          let x ← eval i1 env
          standAt i1.pos
          let x ← foldedSetIterable i1 env x
          let _ ← runOwn (.compStart (.ListComp elt [⟨t0, i0, ifs0, 0⟩, ⟨t1, i1, ifs1, 0⟩] scope pos) 1 (← holding [x] (pyIter x)) acc env) env
        again (.compLoop (.ListComp elt [⟨t0, i0, ifs0, 0⟩, ⟨t1, i1, ifs1, 0⟩] scope pos) 0 it acc env)) := by rfl
theorem compTurn2_in (elt t0 i0 t1 i1 : Expr) (ifs0 ifs1 : List Expr) (scope : Scope) (pos : Pos) (it acc : Value) (env : Env) :
    compTurn (.ListComp elt [⟨t0, i0, ifs0, 0⟩, ⟨t1, i1, ifs1, 0⟩] scope pos) 1 it acc env = (do
      standAt i1.pos
      match ← pyNext it with
      | none => pure (.done .next)
      | some v =>
        letOwnedTupleGo t1 it v
        assign t1 env v
        let mut ok := true
        for c in ifs1 do
          if ok then ok ← isTrue c env (eval c env)
        if ok then
          (do let _ ← call (.builtin "list.append") [acc, ← eval elt env])
        again (.compLoop (.ListComp elt [⟨t0, i0, ifs0, 0⟩, ⟨t1, i1, ifs1, 0⟩] scope pos) 1 it acc env)) := by rfl

section
variable {prog : Program} {w : World} {A : Around} {R : Result → Shared → Prop} {s : Shared} {elt t0 i0 t1 i1 : Expr} {ifs0 ifs1 : List Expr} {scope : Scope} {pos : Pos} {it acc : Value} {env : Env}
/-- the loop of the first clause -/
theorem compLoop2_out (hs : ∀ x, foldedSetIterable i1 env x = pure x) (I : Nat → Shared → Prop)
    (turn : ∀ n s, I n s → wpAny (model prog w) A (pyNext it) (fun r s₁ => match r with
      | none => R (.ok .next) s₁
      | some v => wpAny (model prog w) A (letOwnedTupleGo t0 it v) (fun _ s₁' => wpAny (model prog w) A (assign t0 env v) (fun _ s₂ =>
          wpAny (model prog w) A (forIn ifs0 true fun c r => if r = true then do let ok ← isTrue c env (eval c env); pure (ForInStep.yield ok) else pure (ForInStep.yield r)) (fun ok s₃ =>
            if ok = true then wpAny (model prog w) A (eval i1 env) (fun x s₄ => wpAny (model prog w) A (pyIter x) (fun it1 s₅ =>
              codeAny (model prog w) A (.compStart (.ListComp elt [⟨t0, i0, ifs0, 0⟩, ⟨t1, i1, ifs1, 0⟩] scope pos) 1 it1 acc env) (fun r s' => match r with
                | .ok _ => ∃ m, m < n ∧ I m s'
                | .error _ => False) s₅) (notedBy (model prog w) A env fun e s' => R (.error e) s') s₄) (notedBy (model prog w) A env fun e s' => R (.error e) s') s₃
            else ∃ m, m < n ∧ I m s₃) (notedBy (model prog w) A env fun e s' => R (.error e) s') s₂) (notedBy (model prog w) A env fun e s' => R (.error e) s') s₁') (notedBy (model prog w) A env fun e s' => R (.error e) s') s₁) (notedBy (model prog w) A env fun e s' => R (.error e) s') s)
    (n : Nat) (h : I n s) :
    codeAny (model prog w) A (.compLoop (.ListComp elt [⟨t0, i0, ifs0, 0⟩, ⟨t1, i1, ifs1, 0⟩] scope pos) 0 it acc env) R s := by
  refine codeAny_loop rfl I (fun n s hI => ?_) n h
  show wpAny _ A ((compTurn (.ListComp elt [⟨t0, i0, ifs0, 0⟩, ⟨t1, i1, ifs1, 0⟩] scope pos) 0 it acc env).onRaise (fun x => do noteFrame x env; theTreesLotGoes x)) _ _ s
  refine wpAny_noted ?_
  rw [compTurn2_out]
  refine wpAny_bind (wpAny_standAt (wpAny_bind (wpAny_mono (turn n s hI) (fun r s₁ h₁ => ?_) fun _ _ h' => h')))
  cases r with
  | none => exact wpAny_pure h₁
  | some v =>
    refine wpAny_bind (wpAny_mono h₁ (fun _ s₁' h₁' => ?_) fun _ _ h' => h')
    refine wpAny_bind (wpAny_mono h₁' (fun _ s₂ h₂ => wpAny_bind (wpAny_mono h₂ (fun ok s₃ h₃ => ?_) fun _ _ h' => h')) fun _ _ h' => h')
    cases ok with
    | false => exact wpAny_pure ⟨rfl, h₃⟩
    | true =>
      refine wpAny_bind (wpAny_mono h₃ (fun x s₄ h₄ => ?_) fun _ _ h' => h')
      refine wpAny_bind (wpAny_standAt (wpAny_bind (wpAny_of_eq (hs x) (wpAny_bind (wpAny_holding (wpAny_mono h₄ (fun it1 s₅ h₅ => ?_) fun _ _ h' => h'))))))
      refine wpAny_bind (wpAny_runOwn ?_)
      rw [Around.mark_none]
      refine codeAny_mono h₅ fun r s' hr => ?_
      cases r with
      | ok f =>
        first
          | exact wpAny_pure ⟨rfl, hr⟩
          | exact wpAny_bind (wpAny_pure (wpAny_pure ⟨rfl, hr⟩))
      | error e => exact hr.elim
/-- the loop of the second -/
theorem compLoop2_in (I : Nat → Shared → Prop)
    (turn : ∀ n s, I n s → wpAny (model prog w) A (pyNext it) (fun r s₁ => match r with
      | none => R (.ok .next) s₁
      | some v => wpAny (model prog w) A (letOwnedTupleGo t1 it v) (fun _ s₁' => wpAny (model prog w) A (assign t1 env v) (fun _ s₂ =>
          wpAny (model prog w) A (forIn ifs1 true fun c r => if r = true then do let ok ← isTrue c env (eval c env); pure (ForInStep.yield ok) else pure (ForInStep.yield r)) (fun ok s₃ =>
            if ok = true then wpAny (model prog w) A (eval elt env) (fun x s₄ =>
              wpAny (model prog w) A (call (.builtin "list.append") [acc, x]) (fun _ s₅ => ∃ m, m < n ∧ I m s₅) (notedBy (model prog w) A env fun e s' => R (.error e) s') s₄) (notedBy (model prog w) A env fun e s' => R (.error e) s') s₃
            else ∃ m, m < n ∧ I m s₃) (notedBy (model prog w) A env fun e s' => R (.error e) s') s₂) (notedBy (model prog w) A env fun e s' => R (.error e) s') s₁') (notedBy (model prog w) A env fun e s' => R (.error e) s') s₁) (notedBy (model prog w) A env fun e s' => R (.error e) s') s)
    (n : Nat) (h : I n s) :
    codeAny (model prog w) A (.compLoop (.ListComp elt [⟨t0, i0, ifs0, 0⟩, ⟨t1, i1, ifs1, 0⟩] scope pos) 1 it acc env) R s := by
  refine codeAny_loop rfl I (fun n s hI => ?_) n h
  show wpAny _ A ((compTurn (.ListComp elt [⟨t0, i0, ifs0, 0⟩, ⟨t1, i1, ifs1, 0⟩] scope pos) 1 it acc env).onRaise (fun x => do noteFrame x env; theTreesLotGoes x)) _ _ s
  refine wpAny_noted ?_
  rw [compTurn2_in]
  refine wpAny_bind (wpAny_standAt (wpAny_bind (wpAny_mono (turn n s hI) (fun r s₁ h₁ => ?_) fun _ _ h' => h')))
  cases r with
  | none => exact wpAny_pure h₁
  | some v =>
    refine wpAny_bind (wpAny_mono h₁ (fun _ s₁' h₁' => ?_) fun _ _ h' => h')
    refine wpAny_bind (wpAny_mono h₁' (fun _ s₂ h₂ => wpAny_bind (wpAny_mono h₂ (fun ok s₃ h₃ => ?_) fun _ _ h' => h')) fun _ _ h' => h')
    cases ok with
    | false => exact wpAny_pure ⟨rfl, h₃⟩
    | true =>
      exact wpAny_bind (wpAny_bind (wpAny_mono h₃ (fun x s₄ h₄ => wpAny_bind (wpAny_mono h₄ (fun _ s₅ h₅ => wpAny_pure (wpAny_pure ⟨rfl, h₅⟩)) fun _ _ h' => h')) fun _ _ h' => h'))
/-- the second clause's start -/
theorem compStart1_ok (h0 : codeAny (model prog w) A (.compLoop (.ListComp elt [⟨t0, i0, ifs0, 0⟩, ⟨t1, i1, ifs1, 0⟩] scope pos) 1 it acc env) R s)
    (h : wpAny (model prog w) A (pyIter it) (fun it' s' => codeAny (model prog w) A (.compLoop (.ListComp elt [⟨t0, i0, ifs0, 0⟩, ⟨t1, i1, ifs1, 0⟩] scope pos) 1 it' acc env) R s')
      (notedBy (model prog w) A env fun x s' => R (.error x) s') s) :
    codeAny (model prog w) A (.compStart (.ListComp elt [⟨t0, i0, ifs0, 0⟩, ⟨t1, i1, ifs1, 0⟩] scope pos) 1 it acc env) R s := by
  refine codeAny_of_tree ?_
  show wpAny _ _ ((compStart (.ListComp elt [⟨t0, i0, ifs0, 0⟩, ⟨t1, i1, ifs1, 0⟩] scope pos) 1 it acc env).onRaise (fun x => do noteFrame x env; standAt theWindowsPlace)) _ _ s
  refine wpAny_notedAt ?_
  unfold compStart
  show wpAny _ _ (ask >>= _) _ _ s
  refine wpAny_bind (wpAny_askSetting (wpAny_ite ?_))
  split
  · first
      | exact wpAny_bind (wpAny_pure (wpAny_pure (And.intro rfl h0)))
      | exact wpAny_pure (And.intro rfl h0)
  · first
      | exact wpAny_bind (wpAny_rule (wpAny_bind (wpAny_standAt (wpAny_bind (wpAny_mono h (fun it' s' h' => wpAny_pure (And.intro rfl h')) fun _ _ x => x)))))
      | (refine wpAny_bind (wpAny_rule ?_); show wpAny _ _ (standAt i1.pos >>= _) _ _ s; exact wpAny_bind (wpAny_standAt (wpAny_bind (wpAny_mono h (fun it' s' h' => wpAny_pure (And.intro rfl h')) fun _ _ x => x))))
end

theorem wipe_out {σ : St} {i : Nat} : ∀ {vs : List Nat}, i ∉ vs → (wipe σ vs)[i]? = σ[i]?
  | [], _ => rfl
  | v :: vs, h => by
    have h1 : v ≠ i := fun e => h (by rw [e]; exact List.mem_cons_self)
    have h2 : i ∉ vs := fun m => h (List.mem_cons_of_mem _ m)
    unfold wipe
    rw [List.getElem?_set_ne h1]
    exact wipe_out h2
section
variable {X : Cx}
/-- [elt for tg in iter if .. for tg1 in iter1 if ..]: behind the first clause's store and tests the second source's own loop, from which Nx is reached. vs: the block's names; vs1: those of the second target -/
def tLc2 (wi : TI) (g : TG) (tt : TT) (wi1 : TI) (g1 : TG) (tt1 : TT) (te : TE) (vs vs1 : List Nat) : TE := fun σ H Q => wi σ H fun J H1 => ∀ D, H1 D = none → ∃ W : Nat → Nat → Hp → Prop, (∃ m, W 0 m (upd H1 D (.lst []))) ∧ ∀ i m H, W i m H →
  (J.stop i H ∧ Q (.ref D) H) ∨ (J.go i H ∧ ∃ Nx : Hp → Prop, (∀ H', Nx H' → ∃ m', m' < m ∧ W (i + 1) m' H') ∧ ∀ x H', J.yld i H x H' → g x (wipe σ vs) H' fun σ2 H2 => wipe σ2 vs = wipe σ vs ∧ tt σ2 H2 fun b H3 =>
    if b = true then wi1 σ2 H3 fun J1 H4 => ∃ W1 : Nat → Nat → Hp → Prop, (∃ m, W1 0 m H4) ∧ ∀ j k H, W1 j k H →
      (J1.stop j H ∧ Nx H) ∨ (J1.go j H ∧ ∃ Nx1 : Hp → Prop, (∀ H', Nx1 H' → ∃ k', k' < k ∧ W1 (j + 1) k' H') ∧ ∀ x H', J1.yld j H x H' → g1 x (wipe σ2 vs1) H' fun σ3 H5 => wipe σ3 vs1 = wipe σ2 vs1 ∧ tt1 σ3 H5 fun b H6 =>
        if b = true then te σ3 H6 fun y H7 => ∃ acc, H7 D = some (.lst acc) ∧ acc.length < sizeLine ∧ Nx1 (upd H7 D (.lst (acc ++ [y]))) else Nx1 H6)
    else Nx H3)
theorem lc2_core {pins : List (Addr × Obj)} {s : Shared} {σ : St} {H : Hp} {Q : VK} {elt tg iter tg1 iter1 : Expr} {ifs ifs1 : List Expr} {scope : Scope} {own : List (Str × Nat)} {vs1 : List Nat} {pos pos' : Pos} {wi wi1 : TI} {g g1 : TG} {tt tt1 : TT} {te : TE} {use : Option (Value → Sem Unit)} {Qf : Value → Shared → Prop}
    (hc : X.calm = true) (hN : X.N.Nodup) (I : Inv X pins σ H s) (hi : PI X tg iter wi) (ok : BlkOk X.N X.env.scope scope own) (hv : ∀ i ∈ vs1, i ∈ own.map (·.2))
    (hg : ∀ (s : Shared) (H : Hp) (C : Addr) (cl : List (Str × Addr)) (fp : List Addr), PG (X.blk s H scope (compEnvC scope cl C X.env) fp) tg g) (ht : ∀ (s : Shared) (H : Hp) (C : Addr) (cl : List (Str × Addr)) (fp : List Addr), PTs (X.blk s H scope (compEnvC scope cl C X.env) fp) ifs tt)
    (he : ∀ (s : Shared) (H : Hp) (C : Addr) (cl : List (Str × Addr)) (fp : List Addr), PE (X.blk s H scope (compEnvC scope cl C X.env) fp) elt te) (hs : ∀ x, foldedSetIterable iter X.env x = pure x)
    (hi1 : ∀ (s : Shared) (H : Hp) (C : Addr) (cl : List (Str × Addr)) (fp : List Addr), PI (X.blk s H scope (compEnvC scope cl C X.env) fp) tg1 iter1 wi1)
    (hg1 : ∀ (s : Shared) (H : Hp) (C : Addr) (cl : List (Str × Addr)) (fp : List Addr), PG (X.blk s H scope (compEnvC scope cl C X.env) fp) tg1 g1)
    (ht1 : ∀ (s : Shared) (H : Hp) (C : Addr) (cl : List (Str × Addr)) (fp : List Addr), PTs (X.blk s H scope (compEnvC scope cl C X.env) fp) ifs1 tt1)
    (hs1 : ∀ env x, foldedSetIterable iter1 env x = pure x)
    (h : tLc2 wi g tt wi1 g1 tt1 te (own.map (·.2)) vs1 σ H Q)
    (hRR : ∀ D C s' m H', Inv X pins σ H' s' → Q (.ref D) H' → s'.heap.Ns C m → FpOk X pins H' C → compPost (model X.prog X.w) X.A X.xe use Qf (.ref D) C (.ok .next) s') :
    wpAny (model X.prog X.w) X.A (comprehension (.ListComp elt [⟨tg, iter, ifs, 0⟩, ⟨tg1, iter1, ifs1, 0⟩] scope pos) scope X.env pos' (newList []) false (eval iter X.env) use) Qf X.xe s := by
  have hfree : ∀ y ∈ scope.names, y.2 = .free → ∃ c, X.env.cells.lookup y.1 = some c := fun y hy e => by
    rcases ok.free y hy e with k | k
    · exact I.ok.has _ (.inl k)
    · exact I.ok.has _ (.inr k)
  refine wpAny_comprehension_free (use := use) rfl hs (closure_ok hfree) ok.kind (fun y hy e => by rw [ok.uniq y hy, e])
    (thn (hi pins s σ H _ I h) fun xv s1 hx => thn hx fun itv s2 h2 => ?_)
  obtain ⟨it, fp, tn, J, H2, e, I2, T, st2, f2, q⟩ := h2
  subst e
  refine wpAny_newObj_type (newEnv_comp ?_) (by show 0 ≤ sizeLine; decide)
  generalize hD : s2.heap.objs.size = D
  have hDn : H2 D = none := I2.hok.fresh (Nat.le_of_eq hD)
  obtain ⟨W, ⟨m0, w0⟩, turn⟩ := q D hDn
  -- the new list
  generalize hs3 : ({ s2 with heap := s2.heap.push { cls := .type "list", data := .seq ([] : List Value).toArray } } : Shared) = s3
  have I3 : Inv X pins σ (upd H2 D (.lst [])) s3 := by
    rw [← hs3]
    refine I2.laid (t' := s2.toks) (fun b o e => Heap.get?_push_of_some _ e) (Nat.le_of_eq hD) ⟨Nat.zero_le _, [], 0, .nil, ?_⟩
    rw [← hD]
    exact Heap.get?_push_size _ rfl
  have h3 : s3.heap = s2.heap.push { cls := .type "list", data := .seq ([] : List Value).toArray } := by rw [← hs3]
  have sz : ∀ b ∈ fp, b < s2.heap.objs.size := fun b hb => by
    obtain ⟨o, e, _⟩ := T.obj _ _ st2 b hb
    exact Heap.lt_size e
  have f3 : ∀ b ∈ fp, FpOk X pins (upd H2 D (.lst [])) b ∧ b < s3.heap.objs.size := fun b hb => by
    have hlt := sz b hb
    refine ⟨⟨?_, (f2 b hb).2⟩, by rw [h3, Heap.size_push]; exact Nat.lt_succ_of_lt hlt⟩
    rw [upd_ne (by rw [← hD]; exact Nat.ne_of_lt hlt)]
    exact (f2 b hb).1
  have st3 : tn 0 s3.heap := T.keep _ _ _ st2 fun b _ o e => by rw [h3]; exact Heap.get?_push_of_some _ e
  have I4 := block_start I3 ok hN f3
  have pg := hg s3 (upd H2 D (.lst [])) s3.heap.objs.size (cellsFrom (s3.heap.objs.size + 1) scope.names (cloFrom X.env.cells scope.names [])) fp
  have pt := ht s3 (upd H2 D (.lst [])) s3.heap.objs.size (cellsFrom (s3.heap.objs.size + 1) scope.names (cloFrom X.env.cells scope.names [])) fp
  have pe := he s3 (upd H2 D (.lst [])) s3.heap.objs.size (cellsFrom (s3.heap.objs.size + 1) scope.names (cloFrom X.env.cells scope.names [])) fp
  have pi1 := hi1 s3 (upd H2 D (.lst [])) s3.heap.objs.size (cellsFrom (s3.heap.objs.size + 1) scope.names (cloFrom X.env.cells scope.names [])) fp
  have pg1 := hg1 s3 (upd H2 D (.lst [])) s3.heap.objs.size (cellsFrom (s3.heap.objs.size + 1) scope.names (cloFrom X.env.cells scope.names [])) fp
  have pt1 := ht1 s3 (upd H2 D (.lst [])) s3.heap.objs.size (cellsFrom (s3.heap.objs.size + 1) scope.names (cloFrom X.env.cells scope.names [])) fp
  show codeAny _ _ (.compStart (.ListComp elt [⟨tg, iter, ifs, 0⟩, ⟨tg1, iter1, ifs1, 0⟩] scope pos) 0 (.ref it) (.ref D) (compEnvC scope (cellsFrom (s3.heap.objs.size + 1) scope.names (cloFrom X.env.cells scope.names [])) s3.heap.objs.size X.env)) (compPost (model X.prog X.w) X.A X.xe use Qf (.ref D) s3.heap.objs.size) { s3 with heap := pushCells (s3.heap.push { cls := .type "dict", data := .dict #[] }) scope.names }
  have nfp : ∀ b ∈ fp, (upd H2 D (.lst [])) b = none := fun b hb => (f3 b hb).1.1
  generalize hce : compEnvC scope (cellsFrom (s3.heap.objs.size + 1) scope.names (cloFrom X.env.cells scope.names [])) s3.heap.objs.size X.env = ce at I4 pg pt pe pi1 pg1 pt1 ⊢
  have cL : ce.locals = s3.heap.objs.size := by subst hce; rfl
  generalize hH3 : upd H2 D (.lst []) = H3 at I3 I4 pg pt pe pi1 pg1 pt1 w0 nfp f3
  generalize hs4 : ({ s3 with heap := pushCells (s3.heap.push { cls := .type "dict", data := .dict #[] }) scope.names } : Shared) = s4 at I4 ⊢
  have st4 : tn 0 s4.heap := T.keep _ _ _ st3 fun b _ o e => by rw [← hs4]; exact pushCells_keeps _ _ _ _ (Heap.get?_push_of_some _ e)
  have stat : ∀ {σ' : St} {H' : Hp} {s' : Shared}, Inv (X.blk s3 H3 scope ce fp) [] σ' H' s' → (∀ b ∈ fp, H' b = none) → ∀ b ∈ fp, FpOk (X.blk s3 H3 scope ce fp) [] H' b := fun {σ' H' s'} I' hn b hb =>
    ⟨hn b hb, (I'.ok.exf b hb).1, I'.ok.exfs b hb, .inl hb, fun x c e => (I'.ok.exf b hb).2 x c e, fun p hp => absurd (show p ∈ ([] : List (Addr × Obj)) ++ [] from hp) (by simp)⟩
  have loop : codeAny (model X.prog X.w) X.A (.compLoop (.ListComp elt [⟨tg, iter, ifs, 0⟩, ⟨tg1, iter1, ifs1, 0⟩] scope pos) 0 (.ref it) (.ref D) ce) (compPost (model X.prog X.w) X.A X.xe use Qf (.ref D) s3.heap.objs.size) s4 := by
    refine compLoop2_out (hs1 ce) (fun n s' => ∃ i H', Inv (X.blk s3 H3 scope ce fp) [] (wipe σ (own.map (·.2))) H' s' ∧ tn i s'.heap ∧ (∀ b ∈ fp, H' b = none) ∧ W i n H') ?_ m0 ⟨0, H3, I4, st4, nfp, w0⟩
    rintro n s5 ⟨i, H5, I5, st5, n5, w5⟩
    rcases turn i n H5 w5 with ⟨stop, qq⟩ | ⟨go, Nx, hNx, step⟩
    · have td := T.done (X.blk s3 H3 scope ce fp) rfl rfl rfl hc i [] s5 _ H5 (fun _ _ => False) I5 (stat I5 n5) st5 stop
      refine thnF td fun r s6 ⟨hr, I6⟩ => ?_
      subst hr
      -- back in the def's context
      have I7 : Inv X pins σ H5 s6 := I3.call' (ch := fp) I6.os I6.base I6.hok I6.bare fun b hb => ⟨(f3 b hb).1.2.2.2.1, (f3 b hb).1.2.1, (f3 b hb).1.2.2.2.2.1, (f3 b hb).1.2.2.2.2.2⟩
      have nC : H5 s3.heap.objs.size = none := by
        have z : H5 ce.locals = none := I6.free
        rw [cL] at z
        exact z
      obtain ⟨m, hn, _⟩ := I6.loc
      have hn : s6.heap.Ns ce.locals m := hn
      rw [cL] at hn
      exact hRR D s3.heap.objs.size s6 m H5 I7 qq hn (I3.fpOk (Nat.le_refl _) nC)
    · have ti := T.item (X.blk s3 H3 scope ce fp) rfl rfl rfl hc i [] s5 _ H5 (fun _ _ => False) I5 (stat I5 n5) st5 go
      refine thnF ti fun r s6 ⟨u, hr, h6⟩ => ?_
      subst hr
      refine thnF h6 fun _ s7 ⟨x, H7, I7, r7, y7, st7, n7⟩ => ?_
      have I7' := I7.pinned (stat I7 n7) (T.obj _ _ st7)
      refine thnF (pg _ s7 _ H7 x u _ I7' r7 (step x H7 y7)) fun _ s8 ⟨σ8, H8, I8, hw8, q8⟩ => ?_
      refine thnF (pt _ s8 σ8 H8 _ I8 q8) fun b s9 ⟨H9, I9, q9⟩ => ?_
      -- the turn's end, from any slots that know what the block knew at its start
      have fin : ∀ {σ9 : St} {s' : Shared} {H' : Hp}, Inv (X.blk s3 H3 scope ce fp) ([] ++ pinsAt fp s7.heap) σ9 H' s' → (wipe σ (own.map (·.2))).length = σ9.length → (∀ (j : Nat) v, (wipe σ (own.map (·.2)))[j]? = some (some v) → σ9[j]? = some (some v)) → Nx H' →
          ∃ m, m < n ∧ ∃ i H', Inv (X.blk s3 H3 scope ce fp) [] (wipe σ (own.map (·.2))) H' s' ∧ tn i s'.heap ∧ (∀ b ∈ fp, H' b = none) ∧ W i m H' := fun {σ9 s' H'} I' hl hk nx => by
        obtain ⟨m', hm, w'⟩ := hNx H' nx
        have pin' : ∀ b ∈ fp, ∀ o, s7.heap.get? b = some o → s'.heap.get? b = some o ∧ H' b = none := fun b hb o e =>
          let z := I'.pin (b, o) (List.mem_append_right _ (List.mem_append_right _ (mem_pinsAt hb e)))
          ⟨z.1, z.2.1⟩
        refine ⟨m', hm, i + 1, H', (I'.unpinned (pins := [])).weak hl hk, T.keep _ _ _ st7 fun b hb o e => (pin' b hb o e).1, fun b hb => ?_, w'⟩
        obtain ⟨o, e, _⟩ := T.obj _ _ st7 b hb
        exact (pin' b hb o e).2
      have hl8 : (wipe σ (own.map (·.2))).length = σ8.length := by rw [← hw8, wipe_length]
      have hk8 : ∀ (j : Nat) v, (wipe σ (own.map (·.2)))[j]? = some (some v) → σ8[j]? = some (some v) := fun j v e => by
        rw [← hw8] at e
        exact (wipe_some e).1
      have hk9 : ∀ (j : Nat) v, (wipe σ (own.map (·.2)))[j]? = some (some v) → (wipe σ8 vs1)[j]? = some (some v) := fun j v e => by
        rw [← hw8] at e
        obtain ⟨e1, e2⟩ := wipe_some e
        rw [wipe_out fun z => e2 (hv j z)]
        exact e1
      cases b with
      | false =>
        simp only [Bool.false_eq_true, if_false] at q9 ⊢
        exact fin I9 hl8 hk8 q9
      | true =>
        simp only [if_true] at q9 ⊢
        refine thnF (pi1 _ s9 σ8 H9 _ I9 q9) fun xv s10 hx => thnF hx fun itv s11 h11 => ?_
        obtain ⟨it1, fp1, tn1, J1, H11, e1, I11, T1, st11, f11, W1, ⟨m1, w1⟩, turn1⟩ := h11
        subst e1
        -- the inner loop
        have stat1 : ∀ {H' : Hp}, (∀ b ∈ fp1, H' b = none) → ∀ b ∈ fp1, FpOk (X.blk s3 H3 scope ce fp) ([] ++ pinsAt fp s7.heap) H' b := fun hn b hb => ⟨hn b hb, (f11 b hb).2⟩
        have loop1 : codeAny (model X.prog X.w) X.A (.compLoop (.ListComp elt [⟨tg, iter, ifs, 0⟩, ⟨tg1, iter1, ifs1, 0⟩] scope pos) 1 (.ref it1) (.ref D) ce)
            (fun r s' => match r with
              | .ok _ => ∃ m, m < n ∧ ∃ i H', Inv (X.blk s3 H3 scope ce fp) [] (wipe σ (own.map (·.2))) H' s' ∧ tn i s'.heap ∧ (∀ b ∈ fp, H' b = none) ∧ W i m H'
              | .error _ => False) s11 := by
          refine compLoop2_in (fun k s' => ∃ j H', Inv (X.blk s3 H3 scope ce fp) ([] ++ pinsAt fp s7.heap) (wipe σ8 vs1) H' s' ∧ tn1 j s'.heap ∧ (∀ b ∈ fp1, H' b = none) ∧ W1 j k H') ?_ m1 ⟨0, H11, I11.weak (wipe_length _ _) (fun j v e => (wipe_some e).1), st11, fun b hb => (f11 b hb).1, w1⟩
          rintro k s12 ⟨j, H12, I12, st12, n12, w12⟩
          rcases turn1 j k H12 w12 with ⟨stop1, nx1⟩ | ⟨go1, Nx1, hNx1, step1⟩
          · refine thnF (T1.done (X.blk s3 H3 scope ce fp) rfl rfl rfl hc j _ s12 (wipe σ8 vs1) H12 (fun _ _ => False) I12 (stat1 n12) st12 stop1) fun r s13 ⟨hr, I13⟩ => ?_
            subst hr
            exact fin I13 (hl8.trans (wipe_length σ8 vs1).symm) hk9 nx1
          · refine thnF (T1.item (X.blk s3 H3 scope ce fp) rfl rfl rfl hc j _ s12 (wipe σ8 vs1) H12 (fun _ _ => False) I12 (stat1 n12) st12 go1) fun r s13 ⟨u1, hr, h13⟩ => ?_
            subst hr
            refine thnF h13 fun _ s14 ⟨x1, H14, I14, r14, y14, st14, n14⟩ => ?_
            have I14' := I14.pinned (stat1 n14) (T1.obj _ _ st14)
            refine thnF (pg1 _ s14 (wipe σ8 vs1) H14 x1 u1 _ I14' r14 (step1 x1 H14 y14)) fun _ s15 ⟨σ15, H15, I15, hw15, q15⟩ => ?_
            refine thnF (pt1 _ s15 σ15 H15 _ I15 q15) fun b1 s16 ⟨H16, I16, q16⟩ => ?_
            have fin1 : ∀ {s' : Shared} {H' : Hp}, Inv (X.blk s3 H3 scope ce fp) (([] ++ pinsAt fp s7.heap) ++ pinsAt fp1 s14.heap) σ15 H' s' → Nx1 H' → ∃ m, m < k ∧ ∃ j H', Inv (X.blk s3 H3 scope ce fp) ([] ++ pinsAt fp s7.heap) (wipe σ8 vs1) H' s' ∧ tn1 j s'.heap ∧ (∀ b ∈ fp1, H' b = none) ∧ W1 j m H' := fun {s' H'} I' nx => by
              obtain ⟨m', hm, w'⟩ := hNx1 H' nx
              have pin' : ∀ b ∈ fp1, ∀ o, s14.heap.get? b = some o → s'.heap.get? b = some o ∧ H' b = none := fun b hb o e =>
                let z := I'.pin (b, o) (List.mem_append_right _ (List.mem_append_right _ (mem_pinsAt hb e)))
                ⟨z.1, z.2.1⟩
              refine ⟨m', hm, j + 1, H', I'.unpinned.weak (by rw [← hw15, wipe_length]) (fun j v e => by rw [← hw15] at e; exact (wipe_some e).1), T1.keep _ _ _ st14 fun b hb o e => (pin' b hb o e).1, fun b hb => ?_, w'⟩
              obtain ⟨o, e, _⟩ := T1.obj _ _ st14 b hb
              exact (pin' b hb o e).2
            cases b1 with
            | false =>
              simp only [Bool.false_eq_true, if_false] at q16 ⊢
              exact fin1 I16 q16
            | true =>
              simp only [if_true] at q16 ⊢
              refine thnF (pe _ s16 σ15 H16 _ I16 q16) fun z s17 ⟨yv, H17, I17, r17, acc, hD17, hz17, nx⟩ => ?_
              exact app_ok (X := X.blk s3 H3 scope ce fp) I17 hD17 hz17 r17 fun s18 I18 => fin1 I18 nx
        exact compStart1_ok loop1 (T1.self X.A 0 _ _ _ st11 loop1)
  exact codeAny_compStart_list loop (T.self X.A 0 _ _ _ st4 loop)
/-- as a value -/
theorem pe_lc2 {elt tg iter tg1 iter1 : Expr} {ifs ifs1 : List Expr} {scope : Scope} {own : List (Str × Nat)} {vs1 : List Nat} {pos : Pos} {wi wi1 : TI} {g g1 : TG} {tt tt1 : TT} {te : TE} (hc : X.calm = true) (hN : X.N.Nodup) (hi : PI X tg iter wi) (ok : BlkOk X.N X.env.scope scope own) (hv : ∀ i ∈ vs1, i ∈ own.map (·.2))
    (hg : ∀ (s : Shared) (H : Hp) (C : Addr) (cl : List (Str × Addr)) (fp : List Addr), PG (X.blk s H scope (compEnvC scope cl C X.env) fp) tg g) (ht : ∀ (s : Shared) (H : Hp) (C : Addr) (cl : List (Str × Addr)) (fp : List Addr), PTs (X.blk s H scope (compEnvC scope cl C X.env) fp) ifs tt)
    (hi1 : ∀ (s : Shared) (H : Hp) (C : Addr) (cl : List (Str × Addr)) (fp : List Addr), PI (X.blk s H scope (compEnvC scope cl C X.env) fp) tg1 iter1 wi1)
    (hg1 : ∀ (s : Shared) (H : Hp) (C : Addr) (cl : List (Str × Addr)) (fp : List Addr), PG (X.blk s H scope (compEnvC scope cl C X.env) fp) tg1 g1) (ht1 : ∀ (s : Shared) (H : Hp) (C : Addr) (cl : List (Str × Addr)) (fp : List Addr), PTs (X.blk s H scope (compEnvC scope cl C X.env) fp) ifs1 tt1)
    (he : ∀ (s : Shared) (H : Hp) (C : Addr) (cl : List (Str × Addr)) (fp : List Addr), PE (X.blk s H scope (compEnvC scope cl C X.env) fp) elt te) (hs : ∀ x, foldedSetIterable iter X.env x = pure x := by intro _; rfl) (hs1 : ∀ env x, foldedSetIterable iter1 env x = pure x := by intro _ _; rfl) :
    PE X (.ListComp elt [⟨tg, iter, ifs, 0⟩, ⟨tg1, iter1, ifs1, 0⟩] scope pos) (tLc2 wi g tt wi1 g1 tt1 te (own.map (·.2)) vs1) := by
  intro pins s σ H Q I h
  rw [eval_ListComp]
  refine lc2_core hc hN I hi ok hv hg ht he hs hi1 hg1 ht1 hs1 h fun D C s' m H' I' q hn f => ⟨m, hn, fun h'' sb => ?_⟩
  obtain ⟨f0, f1, f2, f3, f4, f5⟩ := f
  exact ⟨.ref D, H', I'.turned (t' := s'.toks) (fun b o hb e => (sb.2 b hb).trans e) f0 f1 f3 f4 f5, rfl, q⟩
theorem ps_setLc2 {i : Nat} {y : Str} {py : Pos} {elt tg iter tg1 iter1 : Expr} {ifs ifs1 : List Expr} {scope : Scope} {own : List (Str × Nat)} {vs1 : List Nat} {pos spos : Pos} {wi wi1 : TI} {g g1 : TG} {tt tt1 : TT} {te : TE} (hc : X.calm = true) (hN : X.N.Nodup) (hy : X.N[i]? = some y) (hyl : X.env.scope.names.lookup y = some .local)
    (hsw : swapsWith (.ListComp elt [⟨tg, iter, ifs, 0⟩, ⟨tg1, iter1, ifs1, 0⟩] scope pos) (some (.Name y py)) spos.line X.env = pure true) (hi : PI X tg iter wi) (ok : BlkOk X.N X.env.scope scope own) (hv : ∀ i ∈ vs1, i ∈ own.map (·.2))
    (hg : ∀ (s : Shared) (H : Hp) (C : Addr) (cl : List (Str × Addr)) (fp : List Addr), PG (X.blk s H scope (compEnvC scope cl C X.env) fp) tg g) (ht : ∀ (s : Shared) (H : Hp) (C : Addr) (cl : List (Str × Addr)) (fp : List Addr), PTs (X.blk s H scope (compEnvC scope cl C X.env) fp) ifs tt)
    (hi1 : ∀ (s : Shared) (H : Hp) (C : Addr) (cl : List (Str × Addr)) (fp : List Addr), PI (X.blk s H scope (compEnvC scope cl C X.env) fp) tg1 iter1 wi1)
    (hg1 : ∀ (s : Shared) (H : Hp) (C : Addr) (cl : List (Str × Addr)) (fp : List Addr), PG (X.blk s H scope (compEnvC scope cl C X.env) fp) tg1 g1) (ht1 : ∀ (s : Shared) (H : Hp) (C : Addr) (cl : List (Str × Addr)) (fp : List Addr), PTs (X.blk s H scope (compEnvC scope cl C X.env) fp) ifs1 tt1)
    (he : ∀ (s : Shared) (H : Hp) (C : Addr) (cl : List (Str × Addr)) (fp : List Addr), PE (X.blk s H scope (compEnvC scope cl C X.env) fp) elt te) (hs : ∀ x, foldedSetIterable iter X.env x = pure x := by intro _; rfl) (hs1 : ∀ env x, foldedSetIterable iter1 env x = pure x := by intro _ _; rfl) :
    PS X (.Assign [.Name y py] (.ListComp elt [⟨tg, iter, ifs, 0⟩, ⟨tg1, iter1, ifs1, 0⟩] scope pos) spos) (tAsg (tLc2 wi g tt wi1 g1 tt1 te (own.map (·.2)) vs1) (gName i)) := by
  intro pins s σ H D I h
  rw [exec_Assign_Name_used _ _ _ _ hsw]
  refine wpAny_bind (wpAny_standAt (wpAny_bind ?_))
  show wpAny _ X.A (do let _ ← comprehension (.ListComp elt [⟨tg, iter, ifs, 0⟩, ⟨tg1, iter1, ifs1, 0⟩] scope pos) scope X.env (firstIterPos [⟨tg, iter, ifs, 0⟩, ⟨tg1, iter1, ifs1, 0⟩] pos) (newList []) false (eval iter X.env) (some (assign (.Name y py) X.env))) _ _ s
  have h : tLc2 wi g tt wi1 g1 tt1 te (own.map (·.2)) vs1 σ H (fun x H1 => gName i x σ H1 D.nx) := h
  refine wpAny_bind (thn (lc2_core (Qf := fun _ s' => SP X pins D .next s') hc hN I hi ok hv hg ht he hs hi1 hg1 ht1 hs1 h fun L C s' m H' I' q hn f => ?_) fun _ s' hq => wpAny_pure (wpAny_pure hq))
  show wpAny _ _ (assign (.Name y py) X.env (.ref L)) _ _ _
  refine wpAny_assign_Name (store_ok2 (v := V.ref L) I' hN hy (.inl hyl) rfl (fun s2 I2 ⟨a, sb, ha⟩ => ?_) (.inr hyl))
  obtain ⟨f0, f1, f2, f3, f4, f5⟩ := f
  have haC : C ≠ a := by
    rcases ha with z | z
    · rw [z]; exact f1
    · exact fun e => f4 y a z e.symm
  refine ⟨m, hn.sameBut sb haC, fun h3 sb3 => ?_⟩
  exact ⟨_, H', I2.turned (t' := s2.toks) (fun b o hb e => (sb3.2 b hb).trans e) f0 f1 f3 f4 f5, q⟩
end
end L2

namespace L2
open PySem PySem.Spec PyProof.Rows

/-! ### lists of pairs as tables -/
section
variable {κ : Type} [DecidableEq κ]
def valV (kvs : List (κ × V)) (k : κ) : Option V := (kvs.find? fun kv => decide (kv.1 = k)).map (·.2)
/-- in its place, or at the end -/
def putK (kvs : List (κ × V)) (k : κ) (v : V) : List (κ × V) :=
  if (kvs.any fun kv => decide (kv.1 = k)) = true then kvs.map (fun kv => if kv.1 = k then (kv.1, v) else kv) else kvs ++ [(k, v)]
def dropK (kvs : List (κ × V)) (k : κ) : List (κ × V) := kvs.filter fun kv => decide (kv.1 ≠ k)

theorem valV_nil {k : κ} : valV ([] : List (κ × V)) k = none := rfl
theorem valV_pos {p : κ × V} {r : List (κ × V)} {k : κ} (e : p.1 = k) : valV (p :: r) k = some p.2 := by simp [valV, List.find?_cons, e]
theorem valV_neg {p : κ × V} {r : List (κ × V)} {k : κ} (e : ¬ p.1 = k) : valV (p :: r) k = valV r k := by simp [valV, List.find?_cons, e]
theorem valV_any (k : κ) : ∀ kvs : List (κ × V), (kvs.any fun kv => decide (kv.1 = k)) = (valV kvs k).isSome
  | [] => rfl
  | p :: r => by
    rw [List.any_cons]
    by_cases e : p.1 = k
    · simp only [valV_pos e, decide_eq_true e, Bool.true_or, Option.isSome_some]
    · rw [valV_neg e, decide_eq_false e, Bool.false_or]; exact valV_any k r
theorem valV_map (k j : κ) (y : V) : ∀ kvs : List (κ × V), valV (kvs.map fun kv => if kv.1 = k then (kv.1, y) else kv) j = (valV kvs j).map fun x => if j = k then y else x
  | [] => rfl
  | p :: r => by
    have ih := valV_map k j y r
    rw [List.map_cons]
    by_cases h : p.1 = k
    · rw [if_pos h]
      by_cases e : p.1 = j
      · rw [valV_pos (p := (p.1, y)) e, valV_pos e, Option.map_some, if_pos (e.symm.trans h)]
      · rw [valV_neg (p := (p.1, y)) e, valV_neg e, ih]
    · rw [if_neg h]
      by_cases e : p.1 = j
      · rw [valV_pos (p := p) e, valV_pos e, Option.map_some, if_neg (fun z => h (e.trans z))]
      · rw [valV_neg (p := p) e, valV_neg e, ih]
theorem valV_snoc (k j : κ) (y : V) : ∀ kvs : List (κ × V), valV kvs k = none → valV (kvs ++ [(k, y)]) j = if j = k then some y else valV kvs j
  | [], _ => by
    by_cases e : k = j
    · rw [if_pos e.symm]; exact valV_pos (p := (k, y)) e
    · rw [if_neg (fun z => e z.symm)]; exact valV_neg (p := (k, y)) e
  | p :: r, hn => by
    rw [List.cons_append]
    have hk : ¬ p.1 = k := fun z => by rw [valV_pos z] at hn; cases hn
    rw [valV_neg hk] at hn
    have ih := valV_snoc k j y r hn
    by_cases e : p.1 = j
    · rw [valV_pos e, valV_pos e, if_neg (fun z => hk (e.trans z))]
    · rw [valV_neg e, valV_neg e, ih]
theorem valV_put (kvs : List (κ × V)) (k j : κ) (y : V) : valV (putK kvs k y) j = if j = k then some y else valV kvs j := by
  unfold putK
  by_cases a : (kvs.any fun kv => decide (kv.1 = k)) = true
  · rw [if_pos a, valV_map]
    rw [valV_any] at a
    by_cases e : j = k
    · obtain ⟨x, hx⟩ := Option.isSome_iff_exists.mp a
      rw [if_pos e, e, hx, Option.map_some, if_pos rfl]
    · rw [if_neg e]
      cases valV kvs j with
      | none => rfl
      | some x => rw [Option.map_some, if_neg e]
  · rw [if_neg a]
    refine valV_snoc k j y kvs ?_
    rw [valV_any] at a
    cases q : valV kvs k with
    | none => rfl
    | some x => rw [q] at a; exact (a rfl).elim
theorem length_putK (kvs : List (κ × V)) (k : κ) (v : V) : (putK kvs k v).length ≤ kvs.length + 1 := by
  unfold putK
  split
  · rw [List.length_map]; omega
  · rw [List.length_append, List.length_cons, List.length_nil]; omega
theorem putK_new {kvs : List (κ × V)} {k : κ} (v : V) (h : valV kvs k = none) : putK kvs k v = kvs ++ [(k, v)] := by
  unfold putK
  rw [valV_any, h]
  exact if_neg (by decide)

theorem RelO.isSome_eq {o : Option V} {u : Option Value} (r : RelO o u) : o.isSome = u.isSome := by
  cases o with
  | none => cases u with
    | none => rfl
    | some _ => exact (show False from r).elim
  | some _ => cases u with
    | none => exact (show False from r).elim
    | some _ => rfl
theorem RelO.getD {o : Option V} {u : Option Value} {d : V} {d' : Value} (r : RelO o u) (rd : RelV d d') : RelV (o.getD d) (u.getD d') := by
  cases o with
  | none => cases u with
    | none => exact rd
    | some _ => exact (show False from r).elim
  | some _ => cases u with
    | none => exact (show False from r).elim
    | some _ => exact r

/-- raw tables of the same keys -/
theorem KV.val {kvs : List (κ × V)} {vs : List (κ × Value)} (r : KV kvs vs) (k : κ) : RelO (valV kvs k) (valueAt vs k) := by
  unfold KV at r
  induction r with
  | nil => exact True.intro
  | @cons p q ps qs h t ih =>
    obtain ⟨h1, h2⟩ := h
    by_cases e : p.1 = k
    · have e' : q.1 = k := h1.symm.trans e
      have b : valueAt (q :: qs) k = some q.2 := by simp [valueAt, List.find?_cons, e']
      rw [valV_pos e, b]; exact h2
    · have e' : ¬ q.1 = k := fun z => e (h1.trans z)
      have b : valueAt (q :: qs) k = valueAt qs k := by simp [valueAt, List.find?_cons, e']
      rw [valV_neg e, b]; exact ih
theorem KV.any {kvs : List (κ × V)} {vs : List (κ × Value)} (r : KV kvs vs) (k : κ) : (kvs.any fun kv => decide (kv.1 = k)) = vs.any fun kv => decide (kv.1 = k) := by
  unfold KV at r
  induction r with
  | nil => rfl
  | cons h t ih => rw [List.any_cons, List.any_cons, ih, h.1]
theorem KV.repl {kvs : List (κ × V)} {vs : List (κ × Value)} (r : KV kvs vs) (k : κ) {y : V} {u : Value} (ry : RelV y u) :
    KV (kvs.map fun kv => if kv.1 = k then (kv.1, y) else kv) (vs.map fun kv => if kv.1 = k then (kv.1, u) else kv) := by
  unfold KV at r ⊢
  induction r with
  | nil => exact .nil
  | @cons p q ps qs h t ih =>
    rw [List.map_cons, List.map_cons]
    refine .cons ?_ ih
    obtain ⟨h1, h2⟩ := h
    by_cases e : p.1 = k
    · rw [if_pos e, if_pos (h1.symm.trans e)]; exact ⟨h1, ry⟩
    · rw [if_neg e, if_neg (fun z => e (h1.trans z))]; exact ⟨h1, h2⟩
theorem KV.put {kvs : List (κ × V)} {vs : List (κ × Value)} (r : KV kvs vs) (k : κ) {y : V} {u : Value} (ry : RelV y u) : KV (putK kvs k y) (stored vs k u) := by
  unfold putK stored
  rw [r.any k]
  by_cases e : (vs.any fun kv => decide (kv.1 = k)) = true
  · rw [if_pos e, if_pos e]; exact r.repl k ry
  · rw [if_neg e, if_neg e]; exact Paired.snoc r ⟨rfl, ry⟩
theorem KV.drop {kvs : List (κ × V)} {vs : List (κ × Value)} (r : KV kvs vs) (k : κ) : KV (dropK kvs k) (without vs k) := by
  unfold KV at r ⊢
  unfold dropK without
  induction r with
  | nil => exact .nil
  | @cons p q ps qs h t ih =>
    obtain ⟨h1, h2⟩ := h
    rw [List.filter_cons, List.filter_cons]
    by_cases e : p.1 = k
    · have a : ¬ decide (p.1 ≠ k) = true := by simp [e]
      have b : ¬ decide (q.1 ≠ k) = true := by simp [h1.symm.trans e]
      rw [if_neg a, if_neg b]; exact ih
    · have e' : ¬ q.1 = k := fun z => e (h1.trans z)
      have a : decide (p.1 ≠ k) = true := by simp [e]
      have b : decide (q.1 ≠ k) = true := by simp [e']
      rw [if_pos a, if_pos b]; exact .cons ⟨h1, h2⟩ ih
theorem KV.keys {kvs : List (κ × V)} {vs : List (κ × Value)} (r : KV kvs vs) : kvs.map (·.1) = vs.map (·.1) := by
  unfold KV at r
  induction r with
  | nil => rfl
  | cons h t ih => rw [List.map_cons, List.map_cons, ih, h.1]
theorem KV.length {kvs : List (κ × V)} {vs : List (κ × Value)} (r : KV kvs vs) : kvs.length = vs.length := Paired.length r
theorem dropK_le (kvs : List (κ × V)) (k : κ) : (dropK kvs k).length ≤ kvs.length := List.length_filter_le _ _
end


/-! ### a tracked dict, its keys ints and texts or tuples of these -/
theorem kV_is {P : Program} {w : World} {k : Key} {u : Value} (r : RelV (kV k) u) : (mixKind P w).is k u = true := by
  cases k with
  | inl i => obtain ⟨t, e⟩ := (show ∃ t, u = Value.int i t from r); subst e; exact mixKind_int P w i t
  | inr x => obtain ⟨t, e⟩ := (show ∃ t, u = Value.str x t from r); subst e; exact mixKind_str P w x t
theorem kV_inj {a b : Key} (e : kV a = kV b) : a = b := by
  cases a with
  | inl i => cases b with
    | inl j => have e' : V.int i = V.int j := e; injection e' with e'; rw [e']
    | inr y => exact nomatch (show V.int i = V.str y from e)
  | inr x => cases b with
    | inl j => exact nomatch (show V.str x = V.int j from e)
    | inr y => have e' : V.str x = V.str y := e; injection e' with e'; rw [e']
theorem kVs_inj : ∀ {a b : List Key}, a.map kV = b.map kV → a = b
  | [], [], _ => rfl
  | [], _ :: _, e => by simp at e
  | _ :: _, [], e => by simp at e
  | x :: xs, y :: ys, e => by
    rw [List.map_cons, List.map_cons] at e
    injection e with e1 e2
    rw [kV_inj e1, kVs_inj e2]
theorem items_are {P : Program} {w : World} : ∀ {ks : List Key} {us : List Value}, Vals (ks.map kV) us → ItemsAre (mixKind P w) ks us
  | [], _, r => by rw [List.map_nil] at r; cases r; exact .nil
  | k :: ks, _, r => by
    rw [List.map_cons] at r
    cases r with
    | cons h t => exact .cons (kV_is h) (items_are t)

/-- raw entries of a dict with tuple keys -/
abbrev KT (H : Hp) : List (List Key × V) → List (List Key × Addr × Value) → Prop := Paired fun p q => p.1 = q.1 ∧ H q.2.1 = some (.tup (p.1.map kV)) ∧ RelV p.2 q.2.2
theorem KT.val {H : Hp} {kvs : List (List Key × V)} {xs : List (List Key × Addr × Value)} (r : KT H kvs xs) (k : List Key) : RelO (valV kvs k) ((atKey xs k).map (·.2)) := by
  induction r with
  | nil => exact True.intro
  | @cons p q ps qs h t ih =>
    obtain ⟨h1, _, h2⟩ := h
    by_cases e : p.1 = k
    · have e' : q.1 = k := h1.symm.trans e
      have b : atKey (q :: qs) k = some q.2 := by simp [atKey, List.find?_cons, e']
      rw [valV_pos e, b]; exact h2
    · have e' : ¬ q.1 = k := fun z => e (h1.trans z)
      have b : atKey (q :: qs) k = atKey qs k := by simp [atKey, List.find?_cons, e']
      rw [valV_neg e, b]; exact ih
theorem KT.repl {H : Hp} {kvs : List (List Key × V)} {xs : List (List Key × Addr × Value)} (r : KT H kvs xs) (k : List Key) {y : V} {u : Value} (ry : RelV y u) :
    KT H (kvs.map fun kv => if kv.1 = k then (kv.1, y) else kv) (xs.map (putAt k u)) := by
  induction r with
  | nil => exact .nil
  | @cons p q ps qs h t ih =>
    rw [List.map_cons, List.map_cons]
    refine .cons ?_ ih
    obtain ⟨h1, h2, h3⟩ := h
    unfold putAt
    by_cases e : p.1 = k
    · rw [if_pos e, if_pos (h1.symm.trans e)]; exact ⟨h1, h2, ry⟩
    · rw [if_neg e, if_neg (fun z => e (h1.trans z))]; exact ⟨h1, h2, h3⟩
theorem KT.put {H : Hp} {kvs : List (List Key × V)} {xs : List (List Key × Addr × Value)} (r : KT H kvs xs) (k : List Key) {b : Addr} {y : V} {u : Value} (hb : H b = some (.tup (k.map kV))) (ry : RelV y u) :
    KT H (putK kvs k y) (storedH xs k b u) := by
  have e : (kvs.any fun kv => decide (kv.1 = k)) = (atKey xs k).isSome := by
    rw [valV_any, (r.val k).isSome_eq, Option.isSome_map]
  unfold putK storedH
  rw [e]
  by_cases q : (atKey xs k).isSome = true
  · rw [if_pos q, if_pos q]; exact r.repl k ry
  · rw [if_neg q, if_neg q]; exact Paired.snoc r ⟨rfl, hb, ry⟩
theorem KT.keeps {H H' : Hp} {kvs : List (List Key × V)} {xs : List (List Key × Addr × Value)} (r : KT H kvs xs) (ht : ∀ b ys, H b = some (.tup ys) → H' b = some (.tup ys)) : KT H' kvs xs :=
  Paired.mapP r fun _ _ z => ⟨z.1, ht _ _ z.2.1, z.2.2⟩

section
variable {P : Program} {w : World} {H : Hp} {h : Heap} {a : Addr}
theorem rd_of {u : HO} (ok : HOk P w H h) (e : Rd H a u) : ObjOk P w H h a u := e.ok ok
theorem dk_rd {kvs : List (Key × V)} (ok : HOk P w H h) (e : Rd H a (.dK kvs)) : kvs.length ≤ sizeLine ∧ (a == sysModules) = false ∧ ∃ vs, KV kvs vs ∧ h.DictOf (mixKind P w) a vs :=
  show ObjOk P w H h a (.dK kvs) from rd_of ok e
theorem dk_of {kvs : List (Key × V)} (ok : HOk P w H h) (e : H a = some (.dK kvs)) : kvs.length ≤ sizeLine ∧ (a == sysModules) = false ∧ ∃ vs, KV kvs vs ∧ h.DictOf (mixKind P w) a vs := dk_rd ok (.inl e)
/-- a tracked tuple of ints and texts is a key -/
theorem key_of {ks : List Key} (ok : HOk P w H h) (e : H a = some (.tup (ks.map kV))) : (tupleKind (mixKind P w)).is h ks a := by
  obtain ⟨_, its, r, o, h1, h2, n, h3⟩ := (show ObjOk P w H h a (.tup (ks.map kV)) from ok a _ e)
  exact ⟨o, its.toArray, n, h1, h2, h3, by simpa using items_are r⟩
theorem dt_rd {kvs : List (List Key × V)} (ok : HOk P w H h) (e : Rd H a (.dT kvs)) : kvs.length ≤ sizeLine ∧ (a == sysModules) = false ∧
    ∃ xs, KT H kvs xs ∧ h.DictOfH (tupleKind (mixKind P w)) a xs := by
  obtain ⟨z, y, xs, r, o, es, ep, h1, h2, h3, h4, h5⟩ := (show ObjOk P w H h a (.dT kvs) from rd_of ok e)
  refine ⟨z, y, xs, r, o, es, ep, h1, h2, h3, h4, fun x hx => ?_, h5⟩
  have all : ∀ {l : List (List Key × V)} {m : List (List Key × Addr × Value)}, KT H l m → ∀ x ∈ m, (tupleKind (mixKind P w)).is h x.1 x.2.1 := by
    intro l m q
    induction q with
    | nil => intro x hx; exact nomatch hx
    | @cons p q ps qs hq t ih =>
      intro x hx
      rcases List.mem_cons.mp hx with e | hx
      · subst e
        exact key_of ok (by rw [← hq.1]; exact hq.2.1)
      · exact ih x hx
  exact all r x hx
theorem dt_of {kvs : List (List Key × V)} (ok : HOk P w H h) (e : H a = some (.dT kvs)) : kvs.length ≤ sizeLine ∧ (a == sysModules) = false ∧
    ∃ xs, KT H kvs xs ∧ h.DictOfH (tupleKind (mixKind P w)) a xs := dt_rd ok (.inl e)
end

/-- what the dict at a holds at the key y -/
def DGet (H : Hp) (a : Addr) (y : V) (r : Option V) : Prop :=
  (∃ kvs k, Rd H a (.dK kvs) ∧ y = kV k ∧ r = valV kvs k) ∨ ∃ kvs k b, Rd H a (.dT kvs) ∧ y = .ref b ∧ H b = some (.tup (k.map kV)) ∧ r = valV kvs k
/-- the heap behind a[y] = v -/
def DPut (H : Hp) (a : Addr) (y v : V) (H' : Hp) : Prop :=
  (∃ kvs k, H a = some (.dK kvs) ∧ y = kV k ∧ kvs.length < sizeLine ∧ H' = upd H a (.dK (putK kvs k v))) ∨
  ∃ kvs k b, H a = some (.dT kvs) ∧ y = .ref b ∧ H b = some (.tup (k.map kV)) ∧ kvs.length < sizeLine ∧ H' = upd H a (.dT (putK kvs k v))
theorem DGet.k {H : Hp} {a : Addr} {kvs : List (Key × V)} {k : Key} (e : H a = some (.dK kvs)) : DGet H a (kV k) (valV kvs k) := .inl ⟨kvs, k, .inl e, rfl, rfl⟩
theorem DGet.t {H : Hp} {a b : Addr} {kvs : List (List Key × V)} {k : List Key} (e : H a = some (.dT kvs)) (eb : H b = some (.tup (k.map kV))) : DGet H a (.ref b) (valV kvs k) := .inr ⟨kvs, k, b, .inl e, rfl, eb, rfl⟩
theorem DPut.k {H : Hp} {a : Addr} {kvs : List (Key × V)} {k : Key} {v : V} (e : H a = some (.dK kvs)) (hl : kvs.length < sizeLine) : DPut H a (kV k) v (upd H a (.dK (putK kvs k v))) := .inl ⟨kvs, k, e, rfl, hl, rfl⟩
theorem DPut.t {H : Hp} {a b : Addr} {kvs : List (List Key × V)} {k : List Key} {v : V} (e : H a = some (.dT kvs)) (eb : H b = some (.tup (k.map kV))) (hl : kvs.length < sizeLine) :
    DPut H a (.ref b) v (upd H a (.dT (putK kvs k v))) := .inr ⟨kvs, k, b, e, rfl, eb, hl, rfl⟩


section
variable {X : Cx} {pins : List (Addr × Obj)} {σ : St} {H : Hp} {s : Shared} {a : Addr} {y v : V} {u r : Value} {o : Option V} {A : Around} {E : Value → Shared → Prop}

theorem Inv.big (I : Inv X pins σ H s) : sysModules < s.heap.objs.size := by
  have h : mainGlobals < s.heap.objs.size := (I.mod.glob.keeps I.bk).lt
  exact Nat.lt_trans (by decide) h

/-- d[y], there -/
theorem d_getItem {Q : Value → Shared → Prop} (hu : A.units + 1 < cLine) (I : Inv X pins σ H s) (g : DGet H a y (some v)) (ry : RelV y u) (h : ∀ w' s', Inv X pins σ H s' → RelV v w' → Q w' s') :
    wpAny (model X.prog X.w) A (getItem (.ref a) u) Q E s := by
  rcases g with ⟨kvs, k, e, ey, l⟩ | ⟨kvs, k, b, e, ey, eb, l⟩
  · subst ey
    obtain ⟨z, hd, vs, rel, dd⟩ := dk_rd I.hok e
    obtain ⟨w', hw, rw'⟩ := RelO.some_of (v := v) (o := valueAt vs k) (by rw [l]; exact rel.val k)
    exact wpAny_getItem_of (kV_is ry) dd.mapOf hw (h w' _ (I.tok _) rw')
  · subst ey
    cases (show u = Value.ref b from ry)
    obtain ⟨z, hd, xs, rel, dd⟩ := dt_rd I.hok e
    obtain ⟨w', hw, rw'⟩ := RelO.some_of (v := v) (o := (atKey xs k).map (·.2)) (by rw [l]; exact rel.val k)
    obtain ⟨p, hp, hp2⟩ := Option.map_eq_some_iff.mp hw
    refine wpAny_getItem_heap (tupleKind_room_in1 hu) (key_of I.hok eb) dd hp ?_
    rw [hp2]
    exact h w' _ (I.tok _) rw'
/-- y in d -/
theorem d_in {Q : Value → Shared → Prop} (hu : A.units + 1 < cLine) (I : Inv X pins σ H s) (g : DGet H a y o) (ry : RelV y u) (h : ∀ s', Inv X pins σ H s' → Q (.bool o.isSome) s') :
    wpAny (model X.prog X.w) A (compareOp .In u (.ref a)) Q E s := by
  rcases g with ⟨kvs, k, e, ey, l⟩ | ⟨kvs, k, b, e, ey, eb, l⟩
  · subst ey
    obtain ⟨z, hd, vs, rel, dd⟩ := dk_rd I.hok e
    refine wpAny_in_of (kV_is ry) hd dd.mapOf ?_
    rw [← (rel.val k).isSome_eq, ← l]
    exact h _ (I.tok _)
  · subst ey
    cases (show u = Value.ref b from ry)
    obtain ⟨z, hd, xs, rel, dd⟩ := dt_rd I.hok e
    refine wpAny_in_heap (tupleKind_room_in1 hu) (key_of I.hok eb) hd dd ?_
    have q := (rel.val k).isSome_eq
    rw [Option.isSome_map] at q
    rw [← q, ← l]
    exact h _ (I.tok _)
theorem d_notIn {Q : Value → Shared → Prop} (hu : A.units + 1 < cLine) (I : Inv X pins σ H s) (g : DGet H a y o) (ry : RelV y u) (h : ∀ s', Inv X pins σ H s' → Q (.bool (!o.isSome)) s') :
    wpAny (model X.prog X.w) A (compareOp .NotIn u (.ref a)) Q E s := by
  rcases g with ⟨kvs, k, e, ey, l⟩ | ⟨kvs, k, b, e, ey, eb, l⟩
  · subst ey
    obtain ⟨z, hd, vs, rel, dd⟩ := dk_rd I.hok e
    refine wpAny_notIn_of (kV_is ry) hd dd.mapOf ?_
    rw [← (rel.val k).isSome_eq, ← l]
    exact h _ (I.tok _)
  · subst ey
    cases (show u = Value.ref b from ry)
    obtain ⟨z, hd, xs, rel, dd⟩ := dt_rd I.hok e
    refine wpAny_notIn_heap (tupleKind_room_in1 hu) (key_of I.hok eb) hd dd ?_
    have q := (rel.val k).isSome_eq
    rw [Option.isSome_map] at q
    rw [← q, ← l]
    exact h _ (I.tok _)
/-- a dict's object is replaced -/
theorem d_write {h' : Heap} {t' : Nat} {ob : HO} (I : Inv X pins σ H s) (mu : Mut (H a)) (hs : Heap.SameBut a s.heap h') (he : ∃ q, h'.get? a = some q) (new : ObjOk X.prog X.w (upd H a ob) h' a ob) :
    Inv X pins σ (upd H a ob) { s with heap := h', toks := t' } :=
  I.write (x := a) (e := a) mu (.inl rfl) (fun b q hb z => (hs.2 b hb).trans z) he new
theorem dk_new {P : Program} {w : World} {H' : Hp} {h' : Heap} {kvs : List (Key × V)} {vs : List (Key × Value)} (z : kvs.length ≤ sizeLine) (hd : (a == sysModules) = false) (rel : KV kvs vs) (dd : h'.DictOf (mixKind P w) a vs) :
    ObjOk P w H' h' a (.dK kvs) := ⟨z, hd, vs, rel, dd⟩
/-- d[y] = v -/
theorem d_setItem {H' : Hp} {Q : Unit → Shared → Prop} (hu : A.units + 1 < cLine) (I : Inv X pins σ H s) (g : DPut H a y v H') (ry : RelV y u) (rv : RelV v r) (h : ∀ s', Inv X pins σ H' s' → Q () s') :
    wpAny (model X.prog X.w) A (setItem (.ref a) u r) Q E s := by
  rcases g with ⟨kvs, k, e, ey, l, eH⟩ | ⟨kvs, k, b, e, ey, eb, l, eH⟩
  · subst ey eH
    obtain ⟨z, hd, vs, rel, dd⟩ := dk_of I.hok e
    have hz : vs.length ≤ sizeLine := by rw [← rel.length]; exact z
    have hl : (putK kvs k v).length ≤ sizeLine := by have := length_putK kvs k v; omega
    refine wpAny_setItem_pairs (hsz := hz) (kV_is ry) dd fun h' dd' hs => h _ ?_
    have he : ∃ q, h'.get? a = some q := let ⟨q, _, _, hq, _⟩ := dd'; ⟨q, hq⟩
    exact d_write I (by rw [e]; exact True.intro) hs he (dk_new hl hd (rel.put k rv) dd')
  · subst ey eH
    cases (show u = Value.ref b from ry)
    obtain ⟨z, hd, xs, rel, dd⟩ := dt_of I.hok e
    have hz : xs.length ≤ sizeLine := by rw [← Paired.length rel]; exact z
    have hl : (putK kvs k v).length ≤ sizeLine := by have := length_putK kvs k v; omega
    refine wpAny_setItem_heap (hsz := hz) (tupleKind_room_in1 hu) (key_of I.hok eb) dd fun h' dd' hs => h _ ?_
    obtain ⟨q, es, ep, hq, h2, h3, h4, _, h5⟩ := dd'
    refine d_write I (by rw [e]; exact True.intro) hs ⟨q, hq⟩ ⟨hl, hd, _, (rel.put k eb rv).keeps fun c ys ec => ?_, q, es, ep, hq, h2, h3, h4, h5⟩
    rw [upd_ne (ne_of ec e (fun z => nomatch z))]
    exact ec
end

section
variable {X : Cx} {pins : List (Addr × Obj)} {σ : St} {H : Hp} {s : Shared} {a : Addr} {kvs : List (Key × V)} {k : Key} {u : Value} {A : Around} {E : Value → Shared → Prop}
/-- del d[k] -/
theorem d_delItem {Q : Unit → Shared → Prop} (I : Inv X pins σ H s) (e : H a = some (.dK kvs)) (ry : RelV (kV k) u) (l : (valV kvs k).isSome = true) (h : ∀ s', Inv X pins σ (upd H a (.dK (dropK kvs k))) s' → Q () s') :
    wpAny (model X.prog X.w) A (delItem (.ref a) u) Q E s := by
  obtain ⟨z, hd, vs, rel, dd⟩ := dk_of I.hok e
  refine wpAny_delItem_slot dd.typeIs (by decide) PySem.F.slot_dict_delitem
    (call_meetsIn PySem.F.slot_dict_delitem dd.typeIs PySem.F.entry_dict_delitem (PySem.F.args_dict_delitem_2 _ _) (meets_dict_delitem_pairs (mixKind X.prog X.w) a (kV_is ry)) ⟨vs, dd, by rw [← rel.length]; exact z, by rw [← (rel.val k).isSome_eq]; exact l, fun h' dd' hs => h _ ?_⟩)
  have he : ∃ q, h'.get? a = some q := let ⟨q, _, _, hq, _⟩ := dd'; ⟨q, hq⟩
  exact d_write I (by rw [e]; exact True.intro) hs he (dk_new (Nat.le_trans (dropK_le kvs k) z) hd (rel.drop k) dd')
/-- d.pop(k[, x]), there -/
theorem d_pop {v : V} {more : List Value} {Q : Value → Shared → Prop} (I : Inv X pins σ H s) (e : H a = some (.dK kvs)) (ry : RelV (kV k) u) (l : valV kvs k = some v) (hm : more = [] ∨ ∃ x, more = [x])
    (h : ∀ w' s', Inv X pins σ (upd H a (.dK (dropK kvs k))) s' → RelV v w' → Q w' s') : wpAny (model X.prog X.w) A (call (.builtin "dict.pop") (.ref a :: u :: more)) Q E s := by
  obtain ⟨z, hd, vs, rel, dd⟩ := dk_of I.hok e
  obtain ⟨w', hw, rw'⟩ := RelO.some_of (v := v) (o := valueAt vs k) (by rw [← l]; exact rel.val k)
  have hp : (keyPart u).isSome = true := by
    cases k with
    | inl i => obtain ⟨t, q⟩ := (show ∃ t, u = Value.int i t from ry); subst q; rfl
    | inr x => obtain ⟨t, q⟩ := (show ∃ t, u = Value.str x t from ry); subst q; rfl
  have ha : argsOk "dict.pop" ⟨.ref a :: u :: more, []⟩ := by
    rcases hm with q | ⟨x, q⟩
    · subst q; exact PySem.F.args_dict_pop_2 _ _
    · subst q; exact PySem.F.args_dict_pop_3 _ _ _
  refine call_meetsIn PySem.F.slot_dict_pop dd.typeIs PySem.F.entry_dict_pop ha (meets_dict_pop_there (mixKind X.prog X.w) a (kV_is ry) more hm hp)
    ⟨vs, w', dd, by rw [← rel.length]; exact z, hw, fun h' dd' hs => h w' _ ?_ rw'⟩
  have he : ∃ q, h'.get? a = some q := let ⟨q, _, _, hq, _⟩ := dd'; ⟨q, hq⟩
  exact d_write I (by rw [e]; exact True.intro) hs he (dk_new (Nat.le_trans (dropK_le kvs k) z) hd (rel.drop k) dd')
/-- d.pop(k, x), not there -/
theorem d_popD {r : Value} {Q : Value → Shared → Prop} (I : Inv X pins σ H s) (e : H a = some (.dK kvs)) (ry : RelV (kV k) u) (l : valV kvs k = none) (h : ∀ s', Inv X pins σ H s' → Q r s') :
    wpAny (model X.prog X.w) A (call (.builtin "dict.pop") [.ref a, u, r]) Q E s := by
  obtain ⟨z, hd, vs, rel, dd⟩ := dk_of I.hok e
  have hn : valueAt vs k = none := RelO.none_of (by rw [← l]; exact rel.val k)
  have hp : (keyPart u).isSome = true := by
    cases k with
    | inl i => obtain ⟨t, q⟩ := (show ∃ t, u = Value.int i t from ry); subst q; rfl
    | inr x => obtain ⟨t, q⟩ := (show ∃ t, u = Value.str x t from ry); subst q; rfl
  exact call_meetsIn PySem.F.slot_dict_pop dd.typeIs PySem.F.entry_dict_pop (PySem.F.args_dict_pop_3 _ _ _) (meets_dict_pop_default (mixKind X.prog X.w) a (kV_is ry) hd hp r) ⟨vs, dd, hn, h _ (I.tok _)⟩
/-- d.clear() -/
theorem d_clear {Q : Value → Shared → Prop} (I : Inv X pins σ H s) (e : H a = some (.dK kvs)) (h : ∀ s', Inv X pins σ (upd H a (.dK [])) s' → Q .none s') : wpAny (model X.prog X.w) A (call (.builtin "dict.clear") [.ref a]) Q E s := by
  obtain ⟨z, hd, vs, rel, dd⟩ := dk_of I.hok e
  refine call_meetsIn PySem.F.slot_dict_clear dd.typeIs PySem.F.entry_dict_clear (PySem.F.args_dict_clear_1 _) (meets_dict_clear (mixKind X.prog X.w) a) ⟨vs, dd, by rw [← rel.length]; exact z, fun h' dd' hs => h _ ?_⟩
  have he : ∃ q, h'.get? a = some q := let ⟨q, _, _, hq, _⟩ := dd'; ⟨q, hq⟩
  exact d_write (t' := s.toks) I (by rw [e]; exact True.intro) hs he (dk_new (Nat.zero_le _) hd .nil dd')
/-- len(d) -/
theorem d_len {Q : Value → Shared → Prop} (I : Inv X pins σ H s) (e : Rd H a (.dK kvs)) (h : ∀ t s', Inv X pins σ H s' → Q (.int kvs.length t) s') : wpAny (model X.prog X.w) A (call (.builtin "len") [.ref a]) Q E s := by
  obtain ⟨z, hd, vs, rel, dd⟩ := dk_rd I.hok e
  refine call_len_dict hd dd (by rw [← rel.length]; rw [sizeLine_eq] at z; omega) ?_
  rw [← rel.length]
  exact h _ _ (I.tok _)
/-- if d -/
theorem d_truth {Q : Bool → Shared → Prop} (I : Inv X pins σ H s) (e : Rd H a (.dK kvs)) (h : ∀ s', Inv X pins σ H s' → Q (!kvs.isEmpty) s') : wpAny (model X.prog X.w) A (truthy (.ref a)) Q E s := by
  obtain ⟨z, hd, vs, rel, dd⟩ := dk_rd I.hok e
  refine wpAny_truthy_dict hd dd (by rw [← rel.length]; rw [sizeLine_eq] at z; omega) ?_
  have q : kvs.isEmpty = vs.isEmpty := by cases rel <;> rfl
  rw [← q]
  exact h _ (I.tok _)
end


/-! ### readings and rules -/
/-- the element of a subscription, not a slice -/
def NoSl (i : Expr) : Prop := ∀ ov iv, subscripted i false ov iv = operate [ov, iv] (getItem ov iv)
theorem subD_of {prog : Program} {w : World} {A : Around} {E : Value → Shared → Prop} {s : Shared} {env : Env} {value slice : Expr} {pos : Pos} {T id : String} {Q : Value → Shared → Prop}
    (hl : typeLookup (.type T) "__getitem__" = pure (some (.builtin id))) (hs : NoSl slice)
    (h : wpAny (model prog w) A (eval value env) (fun o s₁ => wpAny (model prog w) A (eval slice env) (fun i s₂ => s₂.TypeIs o T ∧ wpAny (model prog w) A (getItem o i) Q E s₂) E s₁) E s) :
    wpAny (model prog w) A (eval (.Subscript value slice pos) env) Q E s := by
  refine Subscript_ (wpAny_mono h (fun o s₁ h₁ => wpAny_mono h₁ (fun i s₂ h₂ => ?_) fun _ _ x => x) fun _ _ x => x)
  obtain ⟨hT, h₂⟩ := h₂
  unfold subscriptTail
  refine wpAny_bind ?_
  rw [getitemInPython_of_ne hT.not_modules]
  refine wpAny_bind (wpAny_specialOf hT hl ?_)
  have fin : wpAny (model prog w) A (subscripted slice false o i) (fun r s₃ => wpAny (model prog w) A (letTemporaryGo value o r >>= fun _ => pure r) Q E s₃) E s₂ := by
    rw [hs o i]
    exact wpAny_operating (wpAny_mono h₂ (fun r s₃ h₃ => wpAny_bind (wpAny_letTemporaryGo (wpAny_pure h₃))) fun _ _ x => x)
  first
    | exact wpAny_pure (wpAny_bind fin)
    | exact wpAny_bind (wpAny_pure (wpAny_bind fin))
    | exact wpAny_bind fin

theorem dict_typeIs {X : Cx} {pins : List (Addr × Obj)} {σ : St} {H : Hp} {s : Shared} {a : Addr} {y : V} {o : Option V} (I : Inv X pins σ H s) (g : DGet H a y o) : s.TypeIs (.ref a) "dict" := by
  rcases g with ⟨kvs, k, e, _, _⟩ | ⟨kvs, k, b, e, _, _, _⟩
  · obtain ⟨_, _, vs, _, dd⟩ := dk_rd I.hok e
    exact dd.typeIs
  · obtain ⟨_, _, xs, _, dd⟩ := dt_rd I.hok e
    exact dd.typeIs
theorem dict_noDict {X : Cx} {pins : List (Addr × Obj)} {σ : St} {H : Hp} {s : Shared} {a : Addr} {y : V} {o : Option V} (I : Inv X pins σ H s) (g : DGet H a y o) :
    ∀ b, Value.ref a = .ref b → ∃ ob, s.heap.get? b = some ob ∧ ob.dict = none := fun b q => by
  cases q
  rcases g with ⟨kvs, k, e, _, _⟩ | ⟨kvs, k, b, e, _, _, _⟩
  · obtain ⟨_, _, vs, _, ob, _, _, h1, h2, _⟩ := dk_rd I.hok e
    exact ⟨ob, h1, h2.2.1⟩
  · obtain ⟨_, _, xs, _, ob, _, _, h1, h2, _⟩ := dt_rd I.hok e
    exact ⟨ob, h1, h2.2.1⟩

/-- d[y] -/
def tDGet (td ty : TE) : TE := fun σ H Q => td σ H fun x H1 => ty σ H1 fun y H2 => ∃ a v, x = .ref a ∧ DGet H2 a y (some v) ∧ Q v H2
/-- y in d, y not in d -/
def tDIn (ty td : TE) : TE := fun σ H Q => ty σ H fun y H1 => td σ H1 fun x H2 => ∃ a o, x = .ref a ∧ DGet H2 a y o ∧ Q (.bl o.isSome) H2
def tDNotIn (ty td : TE) : TE := fun σ H Q => ty σ H fun y H1 => td σ H1 fun x H2 => ∃ a o, x = .ref a ∧ DGet H2 a y o ∧ Q (.bl (!o.isSome)) H2
/-- d[y] = v -/
def sDPut (td ty tv : TE) : TS := fun D σ H => tv σ H fun v H1 => td σ H1 fun x H2 => ty σ H2 fun y H3 => ∃ a H4, x = .ref a ∧ DPut H3 a y v H4 ∧ D.nx σ H4
/-- d[y] op= v -/
def sDAug (td ty tv : TE) (rd : V → V → Hp → VK → Prop) : TS := fun D σ H => td σ H fun x H1 => ty σ H1 fun y H2 => ∃ a v, x = .ref a ∧ DGet H2 a y (some v) ∧
  tv σ H2 fun y2 H3 => rd v y2 H3 fun z H4 => ∃ H5, DPut H4 a y z H5 ∧ D.nx σ H5
/-- del d[y] -/
def sDDel (td ty : TE) : TS := fun D σ H => td σ H fun x H1 => ty σ H1 fun y H2 => ∃ a kvs k, x = .ref a ∧ H2 a = some (.dK kvs) ∧ y = kV k ∧ (valV kvs k).isSome = true ∧ D.nx σ (upd H2 a (.dK (dropK kvs k)))

section
variable {X : Cx} {o i e value : Expr} {pos pos' tpos : Pos} {td ty tv : TE}
theorem pe_dget (hu : X.A.units + 1 < cLine) (ho : PE X o td) (hi : PE X i ty) (hs : NoSl i) : PE X (.Subscript o i pos) (tDGet td ty) := by
  intro pins s σ H Q I h
  refine subD_of PySem.F.slot_dict_getitem.lookup hs (thn (ho pins s σ H _ I h) fun u s1 ⟨x, H1, I1, rx, q1⟩ => thn (hi pins s1 σ H1 _ I1 q1) fun iv s2 ⟨y, H2, I2, ry, a, v, ex, g, q2⟩ => ?_)
  subst ex
  obtain rfl : u = Value.ref a := rx
  exact ⟨dict_typeIs I2 g, d_getItem hu I2 g ry fun w' s3 I3 rw' => ⟨v, H2, I3, rw', q2⟩⟩
theorem pc_din (hu : X.A.units + 1 < cLine) (hi : PE X i ty) (ho : PE X o td) : PC X .In i o (tDIn ty td) := by
  intro pins s σ H Q I h
  refine thn (hi pins s σ H _ I h) fun iv s1 ⟨y, H1, I1, ry, q1⟩ => thn (ho pins s1 σ H1 _ I1 q1) fun u s2 ⟨x, H2, I2, rx, a, ov, ex, g, q2⟩ => ?_
  subst ex
  obtain rfl : u = Value.ref a := rx
  exact d_in hu I2 g ry fun s3 I3 => ⟨.bl ov.isSome, H2, I3, rfl, q2⟩
theorem pc_dnotin (hu : X.A.units + 1 < cLine) (hi : PE X i ty) (ho : PE X o td) : PC X .NotIn i o (tDNotIn ty td) := by
  intro pins s σ H Q I h
  refine thn (hi pins s σ H _ I h) fun iv s1 ⟨y, H1, I1, ry, q1⟩ => thn (ho pins s1 σ H1 _ I1 q1) fun u s2 ⟨x, H2, I2, rx, a, ov, ex, g, q2⟩ => ?_
  subst ex
  obtain rfl : u = Value.ref a := rx
  exact d_notIn hu I2 g ry fun s3 I3 => ⟨.bl (!ov.isSome), H2, I3, rfl, q2⟩
theorem ps_dput (hu : X.A.units + 1 < cLine) (ho : PE X o td) (hi : PE X i ty) (hv : PE X value tv) (hs : swapsWith value (some (.Subscript o i pos')) pos.line X.env = pure false) :
    PS X (.Assign [.Subscript o i pos'] value pos) (sDPut td ty tv) := by
  intro pins s σ H D I h
  refine wpAny_Assign_Subscript (thn (hv pins s σ H _ I h) fun r s1 ⟨v, H1, I1, rv, q1⟩ => thn (ho pins s1 σ H1 _ I1 q1) fun u s2 ⟨x, H2, I2, rx, q2⟩ => thn (hi pins s2 σ H2 _ I2 q2) fun iv s3 ⟨y, H3, I3, ry, a, H4, ex, g, q3⟩ => ?_) hs
  subst ex
  obtain rfl : u = Value.ref a := rx
  exact d_setItem hu I3 g ry rv fun s4 I4 => ⟨σ, H4, I4, q3⟩
theorem ps_daug {op : Operator} {rd : V → V → Hp → VK → Prop} (hu : X.A.units + 1 < cLine) (ho : PE X o td) (hi : PE X i ty) (hv : PE X value tv) (hop : InOp X op rd)
    (ha : ∀ ov iv new, augStore i ov iv new = (do holding [new, ov, iv] (setItem ov iv new); release [new, ov, iv] []; pure .next)) : PS X (.AugAssign (.Subscript o i tpos) op value pos) (sDAug td ty tv rd) := by
  intro pins s σ H D I h
  refine wpAny_AugAssign_SubscriptAny (thn (ho pins s σ H _ I h) fun u s1 ⟨x, H1, I1, rx, q1⟩ => thn (hi pins s1 σ H1 _ I1 q1) fun iv s2 ⟨y, H2, I2, ry, a, v, ex, g, q2⟩ => ?_) ha
  subst ex
  obtain rfl : u = Value.ref a := rx
  refine d_getItem hu I2 g ry fun w' s3 I3 rw' => thn (hv pins s3 σ H2 _ I3 q2) fun w2 s4 ⟨y2, H3, I4, ry2, q3⟩ => thn (hop pins s4 σ H3 v y2 w' w2 _ I4 rw' ry2 q3) fun w3 s5 ⟨z, H4, I5, rz, H5, g5, q4⟩ => ?_
  exact d_setItem hu I5 g5 ry rz fun s6 I6 => ⟨σ, H5, I6, q4⟩
theorem ps_ddel (ho : PE X o td) (hi : PE X i ty) : PS X (.Delete [.Subscript o i tpos] pos) (sDDel td ty) := by
  intro pins s σ H D I h
  refine wpAny_Delete (wpAny_deleteEach_cons (wpAny_delete_Subscript (thn (ho pins s σ H _ I h) fun u s1 ⟨x, H1, I1, rx, q1⟩ => thn (hi pins s1 σ H1 _ I1 q1) fun iv s2 ⟨y, H2, I2, ry, a, kvs, k, ex, e, ey, l, q2⟩ => ?_)))
  subst ex ey
  obtain rfl : u = Value.ref a := rx
  exact d_delItem I2 e ry l fun s3 I3 => wpAny_deleteEach_nil ⟨σ, _, I3, q2⟩
end


/-! ### displays -/
theorem dk_empty {P : Program} {w : World} {H : Hp} (h : Heap) (hb : sysModules < h.objs.size) : ObjOk P w H (h.push { cls := .type "dict", data := .dict #[] }) h.objs.size (.dK []) :=
  ⟨Nat.zero_le _, beq_eq_false_iff_ne.mpr (Ne.symm (Nat.ne_of_lt hb)), [], .nil, Heap.DictOf.new h⟩
theorem dt_empty {P : Program} {w : World} {H : Hp} (h : Heap) (hb : sysModules < h.objs.size) : ObjOk P w H (h.push { cls := .type "dict", data := .dict #[] }) h.objs.size (.dT []) :=
  ⟨Nat.zero_le _, beq_eq_false_iff_ne.mpr (Ne.symm (Nat.ne_of_lt hb)), [], .nil, _, #[], 0, Heap.get?_push_size _ rfl, ⟨rfl, rfl, rfl⟩, rfl, rfl, List.nodup_nil⟩
/-- {}, to be a dict of the kind that is wanted -/
def tDNewK : TE := fun _ H Q => ∀ p, H p = none → Q (.ref p) (upd H p (.dK []))
def tDNewT : TE := fun _ H Q => ∀ p, H p = none → Q (.ref p) (upd H p (.dT []))
section
variable {X : Cx} {pos : Pos}
theorem pe_dnewK : PE X (.Dict [] [] pos) tDNewK := fun pins s σ H Q I h =>
  wpAny_Dict_empty ⟨.ref s.heap.objs.size, _, I.laid (a := s.heap.objs.size) (o := .dK []) (t' := s.toks) (fun _ _ q => Heap.get?_push_of_some _ q) (Nat.le_refl _) (dk_empty s.heap I.big), rfl, h _ (I.hok.fresh (Nat.le_refl _))⟩
theorem pe_dnewT : PE X (.Dict [] [] pos) tDNewT := fun pins s σ H Q I h =>
  wpAny_Dict_empty ⟨.ref s.heap.objs.size, _, I.laid (a := s.heap.objs.size) (o := .dT []) (t' := s.toks) (fun _ _ q => Heap.get?_push_of_some _ q) (Nat.le_refl _) (dt_empty s.heap I.big), rfl, h _ (I.hok.fresh (Nat.le_refl _))⟩
end

/-- the pairs of a display, from the left -/
def tPairs : List (TE × TE) → St → Hp → (List (V × V) → Hp → Prop) → Prop
  | [], _, H, Q => Q [] H
  | (tk, tv) :: r, σ, H, Q => tk σ H fun x H1 => tv σ H1 fun y H2 => tPairs r σ H2 fun ps H3 => Q ((x, y) :: ps) H3
abbrev VV : List (V × V) → List (Value × Value) → Prop := Paired fun p q => RelV p.1 q.1 ∧ RelV p.2 q.2
def PPs (X : Cx) (pos : Pos) (keys : List (Option Expr)) (values : List Expr) (trs : List (TE × TE)) : Prop :=
  ∀ (pins : List (Addr × Obj)) (s : Shared) (σ : St) (H : Hp) (Q : List (V × V) → Hp → Prop), Inv X pins σ H s → tPairs trs σ H Q →
    wpAny (model X.prog X.w) X.A (evalPairs (pairTrees keys values X.env pos)) (fun vs s' => ∃ ps H', Inv X pins σ H' s' ∧ VV ps vs ∧ Q ps H') X.xe s
theorem pps_nil {X : Cx} {pos : Pos} : PPs X pos [] [] [] := fun pins s σ H Q I h => pairTrees_nil_walk ⟨[], H, I, .nil, h⟩
theorem pps_cons {X : Cx} {pos : Pos} {k v : Expr} {ks : List (Option Expr)} {vs : List Expr} {tk tv : TE} {trs : List (TE × TE)} (hk : PE X k tk) (hv : PE X v tv) (hr : PPs X pos ks vs trs) :
    PPs X pos (some k :: ks) (v :: vs) ((tk, tv) :: trs) := fun pins s σ H Q I h =>
  pairTrees_cons_walk (thn (hk pins s σ H _ I h) fun u s1 ⟨x, H1, I1, rx, q1⟩ => thn (hv pins s1 σ H1 _ I1 q1) fun w2 s2 ⟨y, H2, I2, ry, q2⟩ =>
    thn (hr pins s2 σ H2 _ I2 q2) fun ws s3 ⟨ps, H3, I3, rel, q3⟩ => ⟨(x, y) :: ps, H3, I3, .cons ⟨rx, ry⟩ rel, q3⟩)

def mergeK (kvs more : List (Key × V)) : List (Key × V) := more.foldl (fun acc kv => putK acc kv.1 kv.2) kvs
theorem KV.merge : ∀ {more : List (Key × V)} {rs : List (Key × Value)} {kvs : List (Key × V)} {vs : List (Key × Value)}, KV more rs → KV kvs vs → KV (mergeK kvs more) (merged vs rs) := by
  intro more rs kvs vs r
  unfold KV at r
  induction r generalizing kvs vs with
  | nil => intro q; exact q
  | @cons p q ps qs h t ih =>
    intro r0
    have e : KV (putK kvs p.1 p.2) (stored vs q.1 q.2) := by
      have := r0.put p.1 h.2
      rw [← h.1]; exact this
    exact ih e
theorem length_mergeK : ∀ (more kvs : List (Key × V)), (mergeK kvs more).length ≤ kvs.length + more.length
  | [], kvs => by show kvs.length ≤ kvs.length + 0; omega
  | p :: r, kvs => by
    have h1 := length_mergeK r (putK kvs p.1 p.2)
    have h2 := length_putK kvs p.1 p.2
    show (mergeK (putK kvs p.1 p.2) r).length ≤ _
    rw [List.length_cons]; omega
theorem carries_of {P : Program} {w : World} : ∀ {kvs : List (Key × V)} {ws : List (Value × Value)}, VV (kvs.map fun kv => (kV kv.1, kv.2)) ws → ∃ rs, Carries (mixKind P w) ws rs ∧ KV kvs rs
  | [], _, r => by rw [List.map_nil] at r; cases r; exact ⟨[], True.intro, .nil⟩
  | p :: kvs, _, r => by
    rw [List.map_cons] at r
    cases r with
    | @cons a b as bs h t =>
      obtain ⟨rs, c, q⟩ := carries_of (P := P) (w := w) t
      obtain ⟨b1, b2⟩ := b
      exact ⟨(p.1, b2) :: rs, ⟨kV_is h.1, rfl, c⟩, .cons ⟨rfl, h.2⟩ q⟩
/-- {k: v, ..} with keys ints and texts; the new dict stands empty while the pairs are made -/
def tDisp (trs : List (TE × TE)) : TE := fun σ H Q => ∀ p, H p = none → tPairs trs σ (upd H p (.dK [])) fun ps H2 => H2 p = some (.dK []) ∧ ∃ kvs : List (Key × V), ps = kvs.map (fun kv => (kV kv.1, kv.2)) ∧ kvs.length ≤ 15 ∧ Q (.ref p) (upd H2 p (.dK (mergeK [] kvs)))
theorem pe_disp {X : Cx} {pos : Pos} {keys : List (Option Expr)} {values : List Expr} {trs : List (TE × TE)} (h : PPs X pos keys values trs) (hall : keys.all (·.isSome) = true) (hl : keys.length = values.length) (h0 : keys ≠ [])
    (h15 : keys.length ≤ 15) : PE X (.Dict keys values pos) (tDisp trs) := by
  intro pins s σ H Q I q
  have hn := I.hok.fresh (Nat.le_refl s.heap.objs.size)
  have I1 := I.laid (a := s.heap.objs.size) (o := .dK []) (h' := s.heap.push { cls := .type "dict", data := .dict #[] }) (t' := s.toks) (fun _ _ q => Heap.get?_push_of_some _ q) (Nat.le_refl _) (dk_empty s.heap I.big)
  refine wpAny_Dict_walk (knd := mixKind X.prog X.w) hall hl h0 h15 (thn (h pins _ σ _ _ I1 (q _ hn)) fun ws s2 ⟨ps, H2, I2, rel, e, kvs, ep, lk, q2⟩ => ?_)
  subst ep
  obtain ⟨rs, c, rk⟩ := carries_of (P := X.prog) (w := X.w) rel
  obtain ⟨z, hd, vs0, r0, dd⟩ := dk_of I2.hok e
  cases r0
  refine ⟨rs, c, dd, fun h' dd' hs => ⟨.ref s.heap.objs.size, _, ?_, rfl, q2⟩⟩
  have hz : (mergeK [] kvs).length ≤ sizeLine := by
    have h1 := length_mergeK kvs []
    rw [List.length_nil] at h1
    rw [sizeLine_eq]; omega
  have he : ∃ q, h'.get? s.heap.objs.size = some q := let ⟨q, _, _, hq, _⟩ := dd'; ⟨q, hq⟩
  exact d_write I2 (by rw [e]; exact True.intro) hs he (dk_new hz hd (rk.merge .nil) dd')


/-! ### methods -/
/-- a method call o.m(e) of a built-in, with one argument: what must be seen of the text -/
structure M1 (X : Cx) (o : Expr) (m : Str) (apos : Pos) (e : Expr) (cpos : Pos) : Prop where
  base : attributeBase o m X.env (eval o X.env) = eval o X.env
  few : ((backTo cpos (starEach [e] X.env)).all (fun x => !x.1) && (backToKw cpos (keywordEach [] X.env)).all (fun x => x.1.isSome)
    && decide (([e] : List Expr).length + ([] : List Keyword).length + (if ([] : List Keyword).isEmpty then 0 else 1) < 30)) = true
  line : (apos.endLine == cpos.line) = true
  trees : backTo cpos (starEach [e] X.env) = [(false, eval e X.env)]
structure M2 (X : Cx) (o : Expr) (m : Str) (apos : Pos) (e f : Expr) (cpos : Pos) : Prop where
  base : attributeBase o m X.env (eval o X.env) = eval o X.env
  few : ((backTo cpos (starEach [e, f] X.env)).all (fun x => !x.1) && (backToKw cpos (keywordEach [] X.env)).all (fun x => x.1.isSome)
    && decide (([e, f] : List Expr).length + ([] : List Keyword).length + (if ([] : List Keyword).isEmpty then 0 else 1) < 30)) = true
  line : (apos.endLine == cpos.line) = true
  trees : backTo cpos (starEach [e, f] X.env) = [(false, eval e X.env), (false, eval f X.env)]

/-- a is a dict, whatever its keys -/
def IsD (H : Hp) (a : Addr) : Prop := (∃ kvs, Rd H a (.dK kvs)) ∨ ∃ kvs, Rd H a (.dT kvs)
theorem isD_at {X : Cx} {pins : List (Addr × Obj)} {σ : St} {H : Hp} {s : Shared} {a : Addr} (I : Inv X pins σ H s) (d : IsD H a) :
    s.TypeIs (.ref a) "dict" ∧ (∀ b, Value.ref a = .ref b → ∃ ob, s.heap.get? b = some ob ∧ ob.dict = none) ∧ (a == sysModules) = false := by
  rcases d with ⟨kvs, e⟩ | ⟨kvs, e⟩
  · obtain ⟨_, hd, vs, _, dd⟩ := dk_rd I.hok e
    refine ⟨dd.typeIs, fun b q => ?_, hd⟩
    cases q
    obtain ⟨ob, _, _, h1, h2, _⟩ := dd
    exact ⟨ob, h1, h2.2.1⟩
  · obtain ⟨_, hd, xs, _, dd⟩ := dt_rd I.hok e
    refine ⟨dd.typeIs, fun b q => ?_, hd⟩
    cases q
    obtain ⟨ob, _, _, h1, h2, _⟩ := dd
    exact ⟨ob, h1, h2.2.1⟩

section
variable {X : Cx} {pins : List (Addr × Obj)} {σ : St} {H : Hp} {s : Shared} {a : Addr} {y d : V} {u r : Value} {o : Option V} {A : Around} {E : Value → Shared → Prop}
/-- d.get(y) -/
theorem d_get1 {Q : Value → Shared → Prop} (hu : A.units + 1 < cLine) (I : Inv X pins σ H s) (g : DGet H a y o) (ry : RelV y u) (h : ∀ w' s', Inv X pins σ H s' → RelV (o.getD .non) w' → Q w' s') :
    wpAny (model X.prog X.w) A (call (.builtin "dict.get") [.ref a, u]) Q E s := by
  rcases g with ⟨kvs, k, e, ey, l⟩ | ⟨kvs, k, b, e, ey, eb, l⟩
  · subst ey
    obtain ⟨z, hd, vs, rel, dd⟩ := dk_rd I.hok e
    refine call_meetsIn PySem.F.slot_dict_get dd.typeIs PySem.F.entry_dict_get (PySem.F.args_dict_get_2 _ _) (meets_dict_get (mixKind X.prog X.w) a (kV_is ry) hd) ⟨_, dd.mapOf, h _ _ (I.tok _) ?_⟩
    rw [l]
    exact (rel.val k).getD rfl
  · subst ey
    cases (show u = Value.ref b from ry)
    obtain ⟨z, hd, xs, rel, dd⟩ := dt_rd I.hok e
    refine call_meetsIn PySem.F.slot_dict_get dd.typeIs PySem.F.entry_dict_get (PySem.F.args_dict_get_2 _ _) (meetsH_dict_get (tupleKind (mixKind X.prog X.w)) a b hd) ⟨tupleKind_room_in1 hu, k, xs, key_of I.hok eb, dd, h _ _ (I.tok _) ?_⟩
    rw [l]
    exact (rel.val k).getD rfl
/-- d.get(y, x) -/
theorem d_get2 {Q : Value → Shared → Prop} (hu : A.units + 1 < cLine) (I : Inv X pins σ H s) (g : DGet H a y o) (ry : RelV y u) (rd : RelV d r) (h : ∀ w' s', Inv X pins σ H s' → RelV (o.getD d) w' → Q w' s') :
    wpAny (model X.prog X.w) A (call (.builtin "dict.get") [.ref a, u, r]) Q E s := by
  rcases g with ⟨kvs, k, e, ey, l⟩ | ⟨kvs, k, b, e, ey, eb, l⟩
  · subst ey
    obtain ⟨z, hd, vs, rel, dd⟩ := dk_rd I.hok e
    refine call_meetsIn PySem.F.slot_dict_get dd.typeIs PySem.F.entry_dict_get (PySem.F.args_dict_get_3 _ _ _) (meets_dict_get_default (mixKind X.prog X.w) a (kV_is ry) hd r) ⟨_, dd.mapOf, h _ _ (I.tok _) ?_⟩
    rw [l]
    exact (rel.val k).getD rd
  · subst ey
    cases (show u = Value.ref b from ry)
    obtain ⟨z, hd, xs, rel, dd⟩ := dt_rd I.hok e
    refine call_meetsIn PySem.F.slot_dict_get dd.typeIs PySem.F.entry_dict_get (PySem.F.args_dict_get_3 _ _ _) (meetsH_dict_get_default (tupleKind (mixKind X.prog X.w)) a b hd r) ⟨tupleKind_room_in1 hu, k, xs, key_of I.hok eb, dd, h _ _ (I.tok _) ?_⟩
    rw [l]
    exact (rel.val k).getD rd
end

def tDGet1 (td ty : TE) : TE := fun σ H Q => td σ H fun x H1 => ∃ a, x = .ref a ∧ IsD H1 a ∧ ty σ H1 fun y H2 => ∃ o, DGet H2 a y o ∧ Q (o.getD .non) H2
def tDGet2 (td ty tx : TE) : TE := fun σ H Q => td σ H fun x H1 => ∃ a, x = .ref a ∧ IsD H1 a ∧ ty σ H1 fun y H2 => tx σ H2 fun z H3 => ∃ o, DGet H3 a y o ∧ Q (o.getD z) H3
/-- d.pop(k): there; d.pop(k, x): there or not -/
def tDPop1 (td ty : TE) : TE := fun σ H Q => td σ H fun x H1 => ∃ a, x = .ref a ∧ IsD H1 a ∧ ty σ H1 fun y H2 => ∃ kvs k v, H2 a = some (.dK kvs) ∧ y = kV k ∧ valV kvs k = some v ∧ Q v (upd H2 a (.dK (dropK kvs k)))
def tDPop2 (td ty tx : TE) : TE := fun σ H Q => td σ H fun x H1 => ∃ a, x = .ref a ∧ IsD H1 a ∧ ty σ H1 fun y H2 => tx σ H2 fun z H3 => ∃ kvs k, H3 a = some (.dK kvs) ∧ y = kV k ∧
  (∀ v, valV kvs k = some v → Q v (upd H3 a (.dK (dropK kvs k)))) ∧ (valV kvs k = none → Q z H3)
section
variable {X : Cx} {o e f : Expr} {apos cpos : Pos} {td ty tx : TE}
theorem pe_dget1 (hu : X.A.units + 1 < cLine) (ho : PE X o td) (he : PE X e ty) (m : M1 X o "get" apos e cpos) : PE X (.Call (.Attribute o "get" apos) [e] [] cpos) (tDGet1 td ty) := by
  intro pins s σ H Q I h
  refine wpAny_Call_method m.base m.few m.line PySem.F.plainAttrs_dict PySem.F.slot_dict_get PySem.F.type_dict_get (thn (ho pins s σ H _ I h) fun u s1 ⟨x, H1, I1, rx, a, ex, d, q1⟩ => ?_)
  subst ex
  obtain rfl : u = Value.ref a := rx
  obtain ⟨t1, t2, _⟩ := isD_at I1 d
  refine ⟨t1, t2, ?_⟩
  rw [m.trees]
  refine Calls.callWith_builtin rfl (Calls.evalArgs_plain (Calls.spliced_cons (thn (he pins s1 σ H1 _ I1 q1) fun iv s2 ⟨y, H2, I2, ry, ov, g, q2⟩ => Calls.spliced_nil ?_)))
  exact d_get1 hu I2 g ry fun w' s3 I3 rw' => ⟨_, H2, I3, rw', q2⟩
theorem pe_dget2 (hu : X.A.units + 1 < cLine) (ho : PE X o td) (he : PE X e ty) (hf : PE X f tx) (m : M2 X o "get" apos e f cpos) : PE X (.Call (.Attribute o "get" apos) [e, f] [] cpos) (tDGet2 td ty tx) := by
  intro pins s σ H Q I h
  refine wpAny_Call_method m.base m.few m.line PySem.F.plainAttrs_dict PySem.F.slot_dict_get PySem.F.type_dict_get (thn (ho pins s σ H _ I h) fun u s1 ⟨x, H1, I1, rx, a, ex, d, q1⟩ => ?_)
  subst ex
  obtain rfl : u = Value.ref a := rx
  obtain ⟨t1, t2, _⟩ := isD_at I1 d
  refine ⟨t1, t2, ?_⟩
  rw [m.trees]
  refine Calls.callWith_builtin rfl (Calls.evalArgs_plain (Calls.spliced_cons (thn (he pins s1 σ H1 _ I1 q1) fun iv s2 ⟨y, H2, I2, ry, q2⟩ =>
    Calls.spliced_cons (thn (hf pins s2 σ H2 _ I2 q2) fun fv s3 ⟨z, H3, I3, rz, ov, g, q3⟩ => Calls.spliced_nil ?_))))
  exact d_get2 hu I3 g ry rz fun w' s4 I4 rw' => ⟨_, H3, I4, rw', q3⟩
theorem pe_dpop1 (ho : PE X o td) (he : PE X e ty) (m : M1 X o "pop" apos e cpos) : PE X (.Call (.Attribute o "pop" apos) [e] [] cpos) (tDPop1 td ty) := by
  intro pins s σ H Q I h
  refine wpAny_Call_method m.base m.few m.line PySem.F.plainAttrs_dict PySem.F.slot_dict_pop PySem.F.type_dict_pop (thn (ho pins s σ H _ I h) fun u s1 ⟨x, H1, I1, rx, a, ex, d, q1⟩ => ?_)
  subst ex
  obtain rfl : u = Value.ref a := rx
  obtain ⟨t1, t2, _⟩ := isD_at I1 d
  refine ⟨t1, t2, ?_⟩
  rw [m.trees]
  refine Calls.callWith_builtin rfl (Calls.evalArgs_plain (Calls.spliced_cons (thn (he pins s1 σ H1 _ I1 q1) fun iv s2 ⟨y, H2, I2, ry, kvs, k, v, ea, ey, l, q2⟩ => Calls.spliced_nil ?_)))
  subst ey
  exact d_pop I2 ea ry l (.inl rfl) fun w' s3 I3 rw' => ⟨v, _, I3, rw', q2⟩
theorem pe_dpop2 (ho : PE X o td) (he : PE X e ty) (hf : PE X f tx) (m : M2 X o "pop" apos e f cpos) : PE X (.Call (.Attribute o "pop" apos) [e, f] [] cpos) (tDPop2 td ty tx) := by
  intro pins s σ H Q I h
  refine wpAny_Call_method m.base m.few m.line PySem.F.plainAttrs_dict PySem.F.slot_dict_pop PySem.F.type_dict_pop (thn (ho pins s σ H _ I h) fun u s1 ⟨x, H1, I1, rx, a, ex, d, q1⟩ => ?_)
  subst ex
  obtain rfl : u = Value.ref a := rx
  obtain ⟨t1, t2, _⟩ := isD_at I1 d
  refine ⟨t1, t2, ?_⟩
  rw [m.trees]
  refine Calls.callWith_builtin rfl (Calls.evalArgs_plain (Calls.spliced_cons (thn (he pins s1 σ H1 _ I1 q1) fun iv s2 ⟨y, H2, I2, ry, q2⟩ =>
    Calls.spliced_cons (thn (hf pins s2 σ H2 _ I2 q2) fun fv s3 ⟨z, H3, I3, rz, kvs, k, ea, ey, q3, q4⟩ => Calls.spliced_nil ?_))))
  subst ey
  cases l : valV kvs k with
  | some v => exact d_pop I3 ea ry l (.inr ⟨fv, rfl⟩) fun w' s4 I4 rw' => ⟨v, _, I4, rw', q3 v l⟩
  | none => exact d_popD I3 ea ry l fun s4 I4 => ⟨z, H3, I4, rz, q4 l⟩
end

/-! ### dict(d): a copy -/
section
variable {X : Cx} {pins : List (Addr × Obj)} {σ : St} {H : Hp} {s : Shared} {a : Addr} {kvs : List (Key × V)} {A : Around} {E : Value → Shared → Prop}
theorem d_copyOf {Q : Value → Shared → Prop} (I : Inv X pins σ H s) (e : Rd H a (.dK kvs)) (h : ∀ p s', H p = none → Inv X pins σ (upd H p (.dK kvs)) s' → Q (.ref p) s') : wpAny (model X.prog X.w) A (call (.type "dict") [.ref a]) Q E s := by
  obtain ⟨z, hd, vs, rel, dd⟩ := dk_rd I.hok e
  refine kt_call_dict hd dd (by rw [← rel.length]; exact z) fun h' dd' hs => ?_
  refine h _ _ (I.hok.fresh (Nat.le_refl _)) (I.laid (a := s.heap.objs.size) (o := .dK kvs) (t' := s.toks) (fun b q hq => ?_) (Nat.le_refl _) (dk_new z (beq_eq_false_iff_ne.mpr (Ne.symm (Nat.ne_of_lt I.big))) rel dd'))
  exact (hs.2 b (Nat.ne_of_lt (Heap.lt_size hq))).trans (Heap.get?_push_of_some _ hq)
end


section
variable {X : Cx} {pins : List (Addr × Obj)} {σ : St} {H : Hp} {s : Shared} {a : Addr} {y : V} {u : Value} {A : Around} {E : Value → Shared → Prop}
/-- d[y], not there: a KeyError -/
theorem d_missing {Q : Value → Shared → Prop} (hu : A.units + 1 < cLine) (hh : A.handled = none) (I : Inv X pins σ H s) (g : DGet H a y none) (ry : RelV y u)
    (h : ∀ h' e t', Heap.NewExc s.heap h' e "KeyError" → E (.ref e) { s with heap := h', toks := t' }) : wpAny (model X.prog X.w) A (getItem (.ref a) u) Q E s := by
  rcases g with ⟨kvs, k, e, ey, l⟩ | ⟨kvs, k, b, e, ey, eb, l⟩
  · subst ey
    obtain ⟨z, hd, vs, rel, dd⟩ := dk_rd I.hok e
    have hn : valueAt vs k = none := RelO.none_of (by rw [l]; exact rel.val k)
    exact wpAny_getItem_missing_of (kV_is ry) hd hh dd.mapOf hn fun h' ex ne => h h' ex _ ne
  · subst ey
    cases (show u = Value.ref b from ry)
    obtain ⟨z, hd, xs, rel, dd⟩ := dt_rd I.hok e
    have hn : (atKey xs k).map (·.2) = none := RelO.none_of (by rw [l]; exact rel.val k)
    exact wpAny_getItem_missing_heap (tupleKind_room_in1 hu) (key_of I.hok eb) hd hh dd (Option.map_eq_none_iff.mp hn) fun h' ex ne => h h' ex _ ne
end
end L2

namespace L2
open PySem PySem.Spec PyProof.Rows

theorem list_keys_none : typeLookup (.type "list") "keys" = pure none := am_miss_of_fast (by first | decide +kernel | rfl)
theorem ud_entry : entryFor table "dict.update.loop" = some Builtin.«dict.update.loop» := entryFor_of_tree (by kernel_rfl)
theorem ud_plain : plainId "dict.update.loop" = true := by decide +kernel

section
variable {prog : Program} {w : World} {A : Around} {E : Value → Shared → Prop}
/-- a list has no attribute 'keys': an AttributeError is made, and forgotten -/
theorem miss_list {s : Shared} {a : Addr} {o : Obj} {xs : Array Value} {k : Nat} {Q : Option Value → Shared → Prop} (hx : s.heap.get? a = some o) (hc : o.cls = .type "list") (hdat : o.data = .seq xs k) (hd : o.dict = none) (hA : A.handled = none)
    (h : ∀ h' tk, (∀ b ob, s.heap.get? b = some ob → h'.get? b = some ob) → Q none { s with heap := h', toks := tk }) : wpAny (model prog w) A (getAttr? (.ref a) "keys") Q E s := by
  obtain ⟨c, dct, dat, sl⟩ := o
  simp only at hc hdat hd
  subst hc hdat hd
  obtain ⟨hp, g, d, tk, os⟩ := s
  have hT : ∀ tk', (⟨hp, g, d, tk', os⟩ : Shared).TypeIs (.ref a) "list" := fun _ => ⟨_, hx, rfl⟩
  have hmiss := list_keys_none
  have hname : (["__module__", "__name__", "__qualname__", "__doc__", "__annotations__"] : List Str).contains "keys" = false := by decide +kernel
  have hsz : ("keys" : Str).length + 100 ≤ sizeLine := by first | size_fits | decide +kernel
  have f1 := sub_AttributeError
  have f3 := PySem.F.slot_list_getattribute.lookup
  have f4 := PySem.F.slot_list_getattribute.bind (.ref a)
  have f5 := am_list_getattr_none
  unfold getAttr? getAttrBy? getAttrBy
  repeat (any_goals (first | assumption | exact hT _ | ((with_reducible show wpAny _ _ (call (Value.builtin "list.__getattribute__") _ _) _ _ _); refine call_meets PySem.F.slot_list_getattribute (hT _) am_entry_list_getattribute (PySem.F.args_list_getattribute_2 _ _) (meets_getattribute_miss_list a xs k sl "keys" _ hmiss hname hsz) ⟨hx, hA, fun h' tk' e hx' => ?_⟩) | wp_step))
  obtain ⟨t', u', he⟩ := hx'.there
  show wpAny _ _ (getattributeRaised _ _ _ _ _ _ _) _ _ _
  unfold getattributeRaised
  repeat (any_goals (first | assumption | wp_step))
  all_goals first | exact h _ _ hx'.keeps | (dsimp only; repeat (any_goals (first | assumption | exact h _ _ hx'.keeps | wp_step)))

/-- the walk over the pairs -/
theorem upd_loop {R : Result → Shared → Prop} {S I l : Addr} {items : Array Value} {res : Value} (hh : A.handled = none) (hlI : l ≠ I) (hSI : S ≠ I) (hSl : S ≠ l) :
    ∀ (rest : List (Key × Value)) (i : Nat) (acc : List (Key × Value)) (ix : Int) (t : Tok) (s : Shared), items.size = i + rest.length → acc.length + rest.length ≤ sizeLine →
      (∀ (j : Nat) (q : Key × Value), rest[j]? = some q → ∃ (b : Addr) (u : Value), items[i + j]? = some (.ref b) ∧ b ≠ S ∧ b ≠ I ∧ IsTup s.heap b #[u, q.2] ∧ keyIs q.1 u = true) →
      s.heap.IsListIter I l i → s.heap.IsList l items → s.heap.DictOf (mixKind prog w) S acc →
      (∀ h' tk, h'.DictOf (mixKind prog w) S (merged acc rest) → (∀ b o, b ≠ S → b ≠ I → s.heap.get? b = some o → h'.get? b = some o) → R (.ok (.ret res)) { s with heap := h', toks := tk }) →
      codeAny (model prog w) A (.builtin "dict.update.loop" ⟨[.ref S, .ref I, .int ix t, res], []⟩) R s
  | [], i, acc, ix, t, s, hsz, hln, ht, hit, hl, hm, hR => by
    refine codeAny_builtin ud_entry ?_
    rw [Around.under_plainId ud_plain _]
    show wpAny _ A.in1 (pyNext (.ref I) >>= _) _ _ s
    refine wpAny_bind (wpAny_pyNext_list_end (A := A.in1) hh hit hl (by first | exact Array.getElem?_eq_none (Nat.le_of_eq hsz) | (simp at hsz; simp; omega)) fun h' he => ?_)
    show wpAny _ A.in1 (Builtin.Dict.addKeywords S [] >>= _) _ _ _
    refine wpAny_bind (wpAny_pure (wpAny_pure ?_))
    exact hR h' s.toks (hm.extBut he hSI) fun b o _ hb e => he b o hb e
  | q :: rest, i, acc, ix, t, s, hsz, hln, ht, hit, hl, hm, hR => by
    obtain ⟨b, u, hb, hbS, hbI, htup, hk⟩ := ht 0 q rfl
    rw [List.length_cons] at hsz hln
    refine codeAny_builtin ud_entry ?_
    rw [Around.under_plainId ud_plain _]
    show wpAny _ A.in1 (pyNext (.ref I) >>= _) _ _ s
    refine wpAny_bind (wpAny_pyNext_list_item (x := .ref b) hit hl (by simpa using hb) fun h1 hit1 hs1 => ?_)
    have ht1 : IsTup h1 b #[u, q.2] := htup.extBut hs1.extBut hbI
    have hl1 : h1.IsList l items := hl.extBut hs1.extBut hlI
    have hm1 : h1.DictOf (mixKind prog w) S acc := hm.extBut hs1.extBut hSI
    obtain ⟨o, ho, hc, n, hd⟩ := id ht1
    show wpAny _ A.in1 (holding [Value.ref b] _ >>= _) _ _ _
    refine wpAny_bind (wpAny_holding ?_)
    refine wpAny_bind (wpAny_tryCatch ?_)
    unfold Builtin.Dict.pairItems
    refine wpAny_bind (wpAny_typeOf (T := "tuple") ⟨o, ho, hc⟩ ?_)
    rw [if_pos (by first | decide | rfl | simp)]
    refine wpAny_bind (wpAny_seqItems ho hd (wpAny_pure ?_))
    show wpAny _ A.in1 (holding [u, q.2] (dictSet S u q.2)) _ _ _
    refine wpAny_holding (wpAny_dictSet_pairs (knd := mixKind prog w) (k := q.1) hk hm1 (fun h2 hm2 hs2 => ?_) (by omega))
    refine wpAny_pure ⟨plainId_quiet ud_plain _, upd_loop (items := items) hh hlI hSI hSl rest (i + 1) (stored acc q.1 q.2) (ix + 1) 0 _ (show items.size = i + 1 + rest.length by omega) ?_ (fun j q' e => ?_) ?_ ?_ hm2 fun h' tk hd' k => ?_⟩
    · have z := stored_length_le acc q.1 q.2
      omega
    · obtain ⟨b', u', hb', hbS', hbI', htup', hk'⟩ := ht (j + 1) q' (by simpa using e)
      refine ⟨b', u', ?_, hbS', hbI', (htup'.extBut hs1.extBut hbI').extBut hs2.extBut hbS', hk'⟩
      rw [show i + 1 + j = i + (j + 1) by omega]
      exact hb'
    · exact hit1.at fun o' e => hs2.extBut I o' (Ne.symm hSI) e
    · exact hl1.extBut hs2.extBut (Ne.symm hSl)
    · exact hR h' tk hd' fun c oc h3 h4 e => k c oc h3 h4 (hs2.extBut c oc h3 (hs1.extBut c oc h4 e))

/-- dict(l) of a list of pairs -/
theorem call_dict_pairs {s : Shared} {l : Addr} {ol : Obj} {items : Array Value} {n : Nat} {prs : List (Key × Value)} {Q : Value → Shared → Prop} (hh : A.handled = none) (hl : s.heap.get? l = some ol) (hc : ol.cls = .type "list") (hd : ol.dict = none)
    (hdat : ol.data = .seq items n) (hsz : items.size = prs.length) (hln : prs.length ≤ sizeLine)
    (ht : ∀ (j : Nat) (q : Key × Value), prs[j]? = some q → ∃ (b : Addr) (u : Value), items[j]? = some (.ref b) ∧ IsTup s.heap b #[u, q.2] ∧ keyIs q.1 u = true)
    (h : ∀ h' tk, h'.DictOf (mixKind prog w) s.heap.objs.size (merged [] prs) → (∀ b o, s.heap.get? b = some o → h'.get? b = some o) → Q (.ref s.heap.objs.size) { s with heap := h', toks := tk }) :
    wpAny (model prog w) A (call (.type "dict") [.ref l]) Q E s := by
  refine callType_codes (Q₁ := fun obj s₁ => obj = .ref s.heap.objs.size ∧ s₁ = { s with heap := s.heap.push { cls := .type "dict", data := .dict #[] } }) PySem.F.kt_called_dict (PySem.F.kt_typeCall_dict_1 _) PySem.F.entry_dict_init (kt_code_dict_new _ ⟨rfl, rfl⟩) ?_
  rintro obj s₁ ⟨rfl, rfl⟩
  have hnew : (s.heap.push { cls := .type "dict", data := .dict #[] }).DictOf (mixKind prog w) s.heap.objs.size [] := Heap.DictOf.new s.heap
  have k0 : ∀ b o, s.heap.get? b = some o → (s.heap.push { cls := .type "dict", data := .dict #[] }).get? b = some o := fun b o e => Heap.get?_push_of_some _ e
  refine ⟨hnew.typeIs, PySem.F.args_dict_init_2 _ _, ?_⟩
  unfold Builtin.«dict.__init__»
  refine wpAny_bind ?_
  unfold Builtin.Dict.selfAndRest
  refine wpAny_bind (wpAny_notOrdered_dict hnew.typeIs ?_)
  show wpAny _ _ (pure (s.heap.objs.size, [Value.ref l])) _ _ _
  refine wpAny_pure ?_
  show wpAny _ _ (Builtin.Dict.updateFrom "dict.__init__" s.heap.objs.size (.ref l) [] .none) _ _ _
  unfold Builtin.Dict.updateFrom
  refine wpAny_bind (wpAny_typeOf (T := "list") ⟨ol, k0 _ _ hl, hc⟩ ?_)
  rw [if_pos (by first | decide | rfl | simp)]
  refine wpAny_bind (miss_list (k0 _ _ hl) hc hdat hd hh fun h1 tk1 hk1 => ?_)
  rw [if_pos (show (none : Option Value).isNone = true from rfl)]
  refine wpAny_bind (wpAny_rule ?_)
  have hl1 : h1.IsList l items := ⟨ol, hk1 _ _ (k0 _ _ hl), hc, n, hdat⟩
  have hS1 : s.heap.objs.size < h1.objs.size := by
    have e : (s.heap.push { cls := .type "dict", data := .dict #[] }).get? s.heap.objs.size = some { cls := .type "dict", data := .dict #[] } := Heap.get?_push_size _ rfl
    exact Heap.lt_size (hk1 _ _ e)
  refine wpAny_bind (wpAny_pyIter_list hl1 ?_)
  have k2 : ∀ b o, h1.get? b = some o → (h1.push { cls := .type "list_iterator", data := .fields #[.ref l, .int 0 0] }).get? b = some o := fun b o e => Heap.get?_push_of_some _ e
  have hlt : l < s.heap.objs.size := Heap.lt_size hl
  have key := upd_loop (prog := prog) (w := w) (A := A.in1) (R := wants (fun r s₂ => r = .none ∧ Q (.ref s.heap.objs.size) s₂) E) (S := s.heap.objs.size) (I := h1.objs.size) (l := l) (items := items) (res := Value.none) hh
    (Nat.ne_of_lt (Nat.lt_trans hlt hS1)) (Nat.ne_of_lt hS1) (Nat.ne_of_gt hlt) prs 0 [] 0 0
    { s with heap := h1.push { cls := .type "list_iterator", data := .fields #[.ref l, .int 0 0] }, toks := tk1 } (by rw [hsz, Nat.zero_add]) (by rw [List.length_nil, Nat.zero_add]; exact hln)
    (fun j q e => by
      obtain ⟨b, u, e1, e2, e3⟩ := ht j q e
      have hb : b < s.heap.objs.size := e2.lt
      exact ⟨b, u, by rw [Nat.zero_add]; exact e1, Nat.ne_of_lt hb, Nat.ne_of_lt (Nat.lt_trans hb hS1), e2.keeps fun c o z => k2 _ _ (hk1 _ _ (k0 _ _ z)), e3⟩)
    ⟨_, Heap.get?_push_size _ rfl, rfl, rfl⟩ (hl1.at fun o e => k2 _ _ e) ((hnew.at fun o e => hk1 _ _ e).at fun o e => k2 _ _ e)
    (fun h' tk hd' k => ⟨rfl, h h' tk hd' fun b o e => k b o (Nat.ne_of_lt (Heap.lt_size e)) (Nat.ne_of_lt (Nat.lt_trans (Heap.lt_size e) hS1)) (k2 _ _ (hk1 _ _ (k0 _ _ e)))⟩)
  first
    | exact wpAny_pure ⟨plainId_quiet ud_plain _, key⟩
    | exact wpAny_bind (wpAny_pure (wpAny_pure ⟨plainId_quiet ud_plain _, key⟩))
end

section
variable {X : Cx}
theorem pairs_of {pins : List (Addr × Obj)} {σ : St} {H : Hp} {s : Shared} (I : Inv X pins σ H s) : ∀ {ps : List Addr} {kvs : List (Key × V)}, Paired (fun p kv => SqT X.K H p [kV kv.1, kv.2]) ps kvs →
    ∃ prs : List (Key × Value), KV kvs prs ∧ prs.length = ps.length ∧ ∀ (j : Nat) (q : Key × Value), prs[j]? = some q → ∃ (b : Addr) (u : Value), ps[j]? = some b ∧ IsTup s.heap b #[u, q.2] ∧ keyIs q.1 u = true
  | _, _, .nil => ⟨[], .nil, rfl, fun j q e => by simp at e⟩
  | _, _, .cons (a := p) (b := kv) h t => by
    obtain ⟨prs, r, hl, hp⟩ := pairs_of I t
    obtain ⟨its, rv, ht, _⟩ := I.tuple h
    obtain ⟨u, y, ei, ru, ry⟩ := vals2 rv
    subst ei
    refine ⟨(kv.1, y) :: prs, .cons ⟨rfl, ry⟩ r, by rw [List.length_cons, List.length_cons, hl], fun j q e => ?_⟩
    cases j with
    | zero =>
      have e' : (kv.1, y) = q := Option.some.inj e
      subst e'
      exact ⟨p, u, rfl, ht, kV_is (P := X.prog) (w := X.w) ru⟩
    | succ j =>
      obtain ⟨b, u', e1, e2, e3⟩ := hp j q (by simpa using e)
      exact ⟨b, u', by simpa using e1, e2, e3⟩
theorem refs_at : ∀ {ps : List Addr} {us : List Value}, Vals (ps.map V.ref) us → us = ps.map Value.ref
  | [], us, r => by
    rw [List.map_nil] at r
    cases r
    rfl
  | p :: ps, us, r => by
    rw [List.map_cons] at r
    cases r with
    | cons h t =>
      cases h
      rw [List.map_cons, ← refs_at t]
/-- dict(xs) of a list of pairs (key, value): later pairs win, the place is the first one's -/
theorem call_dictP (hcalm : X.calm = true) : CallR X (.type "dict") (fun xs H Q => ∃ (a : Addr) (ps : List Addr) (kvs : List (Key × V)), xs = [.ref a] ∧ SqL X.K H a (ps.map V.ref) ∧ Paired (fun p kv => SqT X.K H p [kV kv.1, kv.2]) ps kvs ∧
    ∀ p, H p = none → Q (.ref p) (upd H p (.dK (mergeK [] kvs)))) := by
  intro pins s σ H xs us Q I r q
  obtain ⟨a, ps, kvs, ex, hq, hp, q⟩ := q
  subst ex
  obtain ⟨u, eu, rx⟩ := vals1 r
  subst eu
  cases rx
  obtain ⟨its, rv, pl, hz⟩ := I.list hq
  have ei := refs_at rv
  subst ei
  rw [List.length_map] at hz
  obtain ⟨prs, rel, hl, hpr⟩ := pairs_of I hp
  obtain ⟨o, n, ho, hc, hd, hdat⟩ := pl
  refine call_dict_pairs (prs := prs) (I.ok.hd hcalm) ho hc hd hdat (by simp [hl]) (by rw [hl]; exact hz) (fun j q' e => ?_) fun h' tk hd' k => ?_
  · obtain ⟨b, u, e1, e2, e3⟩ := hpr j q' e
    exact ⟨b, u, by simp [e1], e2, e3⟩
  · have hm : (s.heap.objs.size == sysModules) = false := beq_eq_false_iff_ne.mpr (Nat.ne_of_gt I.big)
    have hlen : (mergeK [] kvs).length ≤ sizeLine := by
      refine Nat.le_trans (length_mergeK kvs []) ?_
      rw [List.length_nil, Nat.zero_add, rel.length, hl]
      exact hz
    exact ⟨.ref s.heap.objs.size, upd H s.heap.objs.size (.dK (mergeK [] kvs)), I.laid (t' := tk) k (Nat.le_refl _) (show ObjOk X.prog X.w _ _ _ (.dK (mergeK [] kvs)) from ⟨hlen, hm, merged [] prs, KV.merge rel .nil, hd'⟩), rfl, q _ (I.hok.fresh (Nat.le_refl _))⟩
end
end L2

namespace L2
open PySem PySem.Spec PyProof.Rows

theorem boot_reversed5 : bootBuiltins "reversed" = some (.type "reversed") := by decide +kernel

section
variable {X : Cx} {pins : List (Addr × Obj)} {σ : St} {H : Hp} {s : Shared} {h' : Heap}
/-- several records of ours have turned -/
theorem Inv.turnedL {t' : Nat} {ch : List Addr} (I : Inv X pins σ H s) (k : ∀ b o, b ∉ ch → s.heap.get? b = some o → h'.get? b = some o) (hf : ∀ b ∈ ch, FpOk X pins H b) : Inv X pins σ H { s with heap := h', toks := t' } := by
  have nit : ∀ b u, H b = some u → b ∉ ch := fun b u e z => by
    have q := (hf b z).1
    rw [q] at e; cases e
  refine I.step (g' := s.gens) (d' := s.drawn) (ch := ch) (fun b hb => ⟨(hf b hb).2.2.2.1, (hf b hb).2.1, (hf b hb).2.2.2.2.1, (hf b hb).2.2.2.2.2⟩) (fun b o _ _ hc e _ => k b o hc e) (fun b o _ _ hc e _ => ⟨o.slots, k b o hc e⟩)
    (fun _ _ _ _ n => n) (fun b o hc e => ⟨o, k b o hc e⟩) (fun _ _ e => e) (fun _ _ _ e => e) (fun b ps e => ⟨#[], by rw [e]; simp⟩) (fun m hm => ?_) (fun b u e => ?_) I.bare
  · obtain ⟨o, es, ep, ho, r⟩ := hm
    exact ⟨o, es, ep, k _ o (fun z => (hf _ z).2.1 rfl) ho, r⟩
  · refine (I.hok b u e).stay (fun c v hc q => k c v ?_ q) (fun _ q => q) fun _ _ q => q
    rcases hc with z | z
    · rw [z]; exact nit b u e
    · exact nit c _ z
/-- .. and one new object is laid -/
theorem Inv.turnedNew {t' : Nat} {ch : List Addr} {T : Addr} {ob : HO} (I : Inv X pins σ H s) (k : ∀ b o, b ∉ ch → s.heap.get? b = some o → h'.get? b = some o) (hf : ∀ b ∈ ch, FpOk X pins H b) (hT : s.heap.objs.size ≤ T)
    (new : ObjOk X.prog X.w (upd H T ob) h' T ob) : Inv X pins σ (upd H T ob) { s with heap := h', toks := t' } := by
  have hn : H T = none := I.hok.fresh hT
  have nit : ∀ b u, H b = some u → b ∉ ch := fun b u e z => by
    have q := (hf b z).1
    rw [q] at e; cases e
  refine I.step (g' := s.gens) (d' := s.drawn) (ch := ch) (fun b hb => ⟨(hf b hb).2.2.2.1, (hf b hb).2.1, (hf b hb).2.2.2.2.1, (hf b hb).2.2.2.2.2⟩) (fun b o _ _ hc e _ => k b o hc e) (fun b o _ _ hc e _ => ⟨o.slots, k b o hc e⟩)
    (fun b o _ e n => ?_) (fun b o hc e => ⟨o, k b o hc e⟩) (fun b xs e => ?_) (fun b o u e => ?_) (fun b ps e => ⟨#[], ?_⟩) (fun m hm => ?_) (fun b u e => ?_) I.bare
  · rw [upd_ne (Nat.ne_of_lt (Nat.lt_of_lt_of_le (Heap.lt_size e) hT))]; exact n
  · rw [upd_ne (ne_of_none e hn)]; exact e
  · rw [upd_ne (ne_of_none e hn)]; exact e
  · rw [upd_ne (ne_of_none e hn), e]; simp
  · obtain ⟨o, es, ep, ho, r⟩ := hm
    exact ⟨o, es, ep, k _ o (fun z => (hf _ z).2.1 rfl) ho, r⟩
  · by_cases hb : b = T
    · subst hb
      rw [upd_same] at e
      cases e
      exact new
    · rw [upd_ne hb] at e
      refine (I.hok b u e).stay (fun c v hc q => k c v ?_ q) (fun c q => by rw [upd_ne (ne_of_none q hn)]; exact q) fun c xs q => by rw [upd_ne (ne_of_none q hn)]; exact q
      rcases hc with z | z
      · rw [z]; exact nit b u e
      · exact nit c _ z

/-! ### locking a thing while a statement runs -/
theorem Inv.lock {d : Addr} {u : HO} (I : Inv X pins σ H s) (h : H d = some u) (mu : Mut (some u)) : ∃ od, Inv X pins σ (upd H d (.frz od u)) s := by
  have x := I.hok d u h
  have ex : ∃ od, s.heap.get? d = some od := by
    cases u with
    | lst xs => obtain ⟨_, _, _, _, e⟩ := x; exact ⟨_, e⟩
    | dK kvs => obtain ⟨_, _, _, _, o, _, _, e, _⟩ := x; exact ⟨o, e⟩
    | dT kvs => obtain ⟨_, _, _, _, o, _, _, e, _⟩ := x; exact ⟨o, e⟩
    | set S n => obtain ⟨o, _, _, _, e, _⟩ := x; exact ⟨o, e⟩
    | ins C dx fs => obtain ⟨_, _, _, e, _⟩ := x; exact ⟨_, e⟩
    | ext φ => obtain ⟨_, ⟨_, e⟩, _⟩ := x; exact ⟨_, e⟩
    | _ => exact False.elim mu
  obtain ⟨od, e⟩ := ex
  have new : ObjOk X.prog X.w (upd H d (.frz od u)) s.heap d (.frz od u) := by
    refine ⟨e, x.stay (fun b v _ q => q) (fun b q => ?_) fun b xs q => ?_⟩
    · rw [upd_ne (fun z => by rw [z, h] at q; cases q; exact mu)]; exact q
    · rw [upd_ne (fun z => by rw [z, h] at q; cases q; exact mu)]; exact q
  exact ⟨od, I.write (x := d) (e := d) (t' := s.toks) (h' := s.heap) (by rw [h]; exact mu) (.inl rfl) (fun b v _ q => q) ⟨od, e⟩ new⟩
theorem Inv.nofrz {d : Addr} {u : HO} (I : Inv X pins σ H s) (h : H d = some u) (mu : Mut (some u)) : ∀ o' u', X.H_0 d ≠ some (.frz o' u') := fun o' u' e => by
  have q := I.base.frzs d o' u' e
  rw [h] at q
  cases q
  exact mu
theorem Inv.unlock {d : Addr} {od : Obj} {u : HO} (I : Inv X pins σ H s) (h : H d = some (.frz od u)) (hn : ∀ o' u', X.H_0 d ≠ some (.frz o' u')) : Inv X pins σ (upd H d u) s := by
  have neH : ∀ b o, H b = some o → (∀ o' u', o ≠ .frz o' u') → b ≠ d := fun b o e hne z => by
    rw [z, h] at e
    cases e
    exact hne _ _ rfl
  have neN : ∀ b, H b = none → b ≠ d := fun b e z => by rw [z, h] at e; cases e
  refine ⟨I.ok, I.os, I.bare, ⟨I.base.keep, I.base.slot, fun b o e n hx => ?_, I.base.there, fun b xs e => ?_, fun b o x e => ?_, fun b ps e => ?_⟩, I.loc, I.cell, ?_, fun x c e => ?_, fun p hp => ?_, fun b o e => ?_, I.len⟩
  · rw [upd_ne (neN b (I.base.free b o e n hx))]; exact I.base.free b o e n hx
  · have q := I.base.tups b xs e
    rw [upd_ne (neH b _ q (fun _ _ z => nomatch z))]; exact q
  · have q := I.base.frzs b o x e
    rw [upd_ne (fun z => by rw [z] at e; exact hn _ _ e)]; exact q
  · obtain ⟨m, q⟩ := I.base.tbls b ps e
    exact ⟨m, by rw [upd_ne (neH b _ q (fun _ _ z => nomatch z))]; exact q⟩
  · rw [upd_ne (neN _ I.free)]; exact I.free
  · rw [upd_ne (neN c (I.freeC x c e))]; exact I.freeC x c e
  · obtain ⟨e, n, r⟩ := I.pin p hp
    exact ⟨e, by rw [upd_ne (neN _ n)]; exact n, r⟩
  · by_cases hb : b = d
    · rw [hb, upd_same] at e
      cases e
      rw [hb]
      obtain ⟨_, x⟩ := I.hok d _ h
      exact x.stay (fun c v _ q => q) (fun c q => by rw [upd_ne (neH c _ q (fun _ _ z => nomatch z))]; exact q) fun c xs q => by rw [upd_ne (neH c _ q (fun _ _ z => nomatch z))]; exact q
    · rw [upd_ne hb] at e
      exact (I.hok b o e).stay (fun c v _ q => q) (fun c q => by rw [upd_ne (neH c _ q (fun _ _ z => nomatch z))]; exact q) fun c xs q => by rw [upd_ne (neH c _ q (fun _ _ z => nomatch z))]; exact q
end
/-- the statement runs while the thing at d is locked (read, not written); d and what stands there are the reading's choice -/
def tLock (t : TS) : TS := fun D σ H => ∃ d u, H d = some u ∧ Mut (some u) ∧ ∀ od, t ⟨fun σ' H' => H' d = some (.frz od u) ∧ D.nx σ' (upd H' d u), fun v H' => H' d = some (.frz od u) ∧ D.rt v (upd H' d u), fun σ' H' => H' d = some (.frz od u) ∧ D.bk σ' (upd H' d u), fun σ' H' => H' d = some (.frz od u) ∧ D.ct σ' (upd H' d u)⟩ σ (upd H d (.frz od u))
def tLockE (t : TE) : TE := fun σ H Q => ∃ d u, H d = some u ∧ Mut (some u) ∧ ∀ od, t σ (upd H d (.frz od u)) fun v H' => H' d = some (.frz od u) ∧ Q v (upd H' d u)
section
variable {X : Cx}
theorem ps_lock {st : Stmt} {t : TS} (h : PS X st t) : PS X st (tLock t) := by
  intro pins s σ H D I hw
  obtain ⟨d, u, hd, mu, hw⟩ := hw
  obtain ⟨od, I1⟩ := I.lock hd mu
  refine thn (h pins s σ _ _ I1 (hw od)) fun f s1 q => ?_
  cases f with
  | next => obtain ⟨σ', H', I2, e, q⟩ := q; exact ⟨σ', _, I2.unlock e (I.nofrz hd mu), q⟩
  | brk => obtain ⟨σ', H', I2, e, q⟩ := q; exact ⟨σ', _, I2.unlock e (I.nofrz hd mu), q⟩
  | cont => obtain ⟨σ', H', I2, e, q⟩ := q; exact ⟨σ', _, I2.unlock e (I.nofrz hd mu), q⟩
  | ret v => obtain ⟨x, σ', H', I2, r, e, q⟩ := q; exact ⟨x, σ', _, I2.unlock e (I.nofrz hd mu), r, q⟩
theorem pe_lock {e : Expr} {t : TE} (h : PE X e t) : PE X e (tLockE t) := by
  intro pins s σ H Q I hw
  obtain ⟨d, u, hd, mu, hw⟩ := hw
  obtain ⟨od, I1⟩ := I.lock hd mu
  refine thn (h pins s σ _ _ I1 (hw od)) fun v s1 ⟨x, H1, I2, r, e2, q⟩ => ?_
  exact ⟨x, _, I2.unlock e2 (I.nofrz hd mu), r, q⟩

/-! ### one iterator just laid -/
theorem pi_one {tg : Expr} {pins : List (Addr × Obj)} {σ : St} {H : Hp} {s : Shared} {R : It → Hp → Prop} {J : It} {tn : Nat → Heap → Prop} {tk : Nat} (I : Inv X pins σ H s) (o : Obj)
    (T : Turn X.prog X.w X.K tg J [s.heap.objs.size] s.heap.objs.size tn) (st : tn 0 (s.heap.push o)) (q : R J H) : PIE X pins σ tg R (.ref s.heap.objs.size) { s with heap := s.heap.push o, toks := tk } := by
  refine ⟨s.heap.objs.size, [s.heap.objs.size], tn, J, H, rfl, I.kept fun b ob e => Heap.get?_push_of_some _ e, T, st, fun b hb => ?_, q⟩
  have e : b = s.heap.objs.size := by simpa using hb
  subst e
  exact I.fpOk (Nat.le_refl _) (I.hok.fresh (Nat.le_refl _))
end

/-! ### range with a step -/
/-- lo, lo + c, .. (n of them) -/
def Itc (lo c : Int) (n : Nat) : It := ⟨fun i _ => i < n, fun i H x H' => H' = H ∧ x = .int (lo + (i : Nat) * c), fun i _ => n ≤ i⟩
theorem turn_rangeC {P : Program} {w : World} {K : PySem.W.Frag} {tg : Expr} (it : Addr) (lo c : Int) (n : Nat) : Turn P w K tg (Itc lo c n) [it] it (fun i h => IsRangeIter h it (lo + (i : Nat) * c) ((n : Int) - (i : Nat)) c) where
  mem := by simp
  obj := fun i h st b hb => by
    have e : b = it := by simpa using hb
    subst e
    exact ⟨_, st, fun v z => nomatch z⟩
  keep := fun i h h' st k => k it (by simp) _ st
  item := by
    intro X hP hw hK hc i pins s σ H E I hf st hg
    subst hP hw hK
    obtain ⟨f0, f1, f2, f3, f4, f5⟩ := hf it (by simp)
    have W := Walks.range (prog := X.prog) (w := X.w) (I.ok.hd hc) it lo c n
    refine W.item i s _ _ hg st fun v h' tk hv st' kk => ?_
    obtain ⟨t, rfl⟩ := hv
    have I1 : Inv X pins σ H { s with heap := h', toks := tk } := I.turned (fun b o hb e => kk b o (by simpa using hb) e) f0 f1 f3 f4 f5
    exact ⟨_, rfl, go_of (s := { s with heap := h', toks := tk }) (n := "range_iterator") st' rfl rfl (by decide) ⟨.int (lo + (i : Nat) * c), H, I1, ⟨t, rfl⟩, ⟨rfl, rfl⟩, st', fun b hb => (hf b hb).1⟩⟩
  done := by
    intro X hP hw hK hc i pins s σ H E I hf st hg
    subst hP hw hK
    obtain ⟨f0, f1, f2, f3, f4, f5⟩ := hf it (by simp)
    exact wpAny_pyNext_range_end (I.ok.hd hc) st (by have : n ≤ i := hg; omega) fun h' eb => ⟨rfl, I.turned (t' := s.toks) (fun b o hb e => eb b o hb e) f0 f1 f3 f4 f5⟩
  self := fun A i s Q E st h => wpAny_pyIter_rangeiter st h
/-- range(i, j, c): small bounds, n items -/
def RgC (i j c : Int) (n : Nat) : Prop := c ≠ 0 ∧ c.natAbs < 1073741824 ∧ Builtin.Range.small i j c = true ∧ Builtin.Range.rangeSize i j c = n
theorem RgC.neg {i j : Int} (ha : -(2 ^ 62) ≤ i) (ha' : i < 2 ^ 62) (hb : -(2 ^ 62) ≤ j) (hb' : j < 2 ^ 62) : RgC i j (-1) (i - j).toNat :=
  ⟨by decide, by decide, PySem.W.small_down ha ha' hb hb', PySem.W.rangeSize_downNat i j⟩
def iRng3 (ta : TA) : TI := fun σ H R => ta σ H fun vs H1 => ∃ (i j c : Int) (n : Nat), vs = [.int i, .int j, .int c] ∧ RgC i j c n ∧ R (Itc i c n) H1
section
variable {X : Cx} {tg : Expr}
theorem pi_range3 {a b c : Expr} {ta : TA} {p pos : Pos} (hg : Gl X "range") (hm : X.mg "range" = none) (ha : PA X [a, b, c] ta)
    (hs : starEach [a, b, c] X.env = (false, eval a X.env) :: starEach [b, c] X.env := by rfl) (hpl : (backTo pos (starEach [b, c] X.env)).any (·.1) = false := by rfl) :
    PI X tg (.Call (.Name "range" p) [a, b, c] [] pos) (iRng3 ta) := by
  intro pins s σ H R I h
  refine Call_ (ld_blt I hg hm boot_range (PyProof.Rows.callWith_type1 (thn (ha pos pins s σ H _ I h) fun us s1 ⟨vs, H1, I1, r1, q1⟩ => ?_) hs hpl))
  obtain ⟨i, j, k, n, e, ⟨c0, c1, c2, c3⟩, q⟩ := q1
  subst e
  cases r1 with
  | cons r rr =>
    cases rr with
    | cons r' rr =>
      cases rr with
      | cons r'' rr =>
        cases rr
        obtain ⟨t, rfl⟩ := r
        obtain ⟨t', rfl⟩ := r'
        obtain ⟨t'', rfl⟩ := r''
        refine call_range_3 c0 ?_ (.inl (PyProof.noPylong_small c1))
        refine wpAny_pyIter_range (IsRange.new ..) c2 ?_
        have I2 : Inv X pins σ H1 { s1 with heap := s1.heap.push { cls := .type "range", data := .fields #[.int i t, .int j t', .int k t''] } } := I1.kept (t' := s1.toks) fun b o e => Heap.get?_push_of_some _ e
        refine pi_one (tk := s1.toks) I2 _ (turn_rangeC _ i k n) ?_ q
        have e1 : i + ((0 : Nat) : Int) * k = i := by simp
        have e2 : (n : Int) - ((0 : Nat) : Int) = Builtin.Range.rangeSize i j k := by rw [c3]; simp
        show IsRangeIter _ _ (i + ((0 : Nat) : Int) * k) ((n : Int) - ((0 : Nat) : Int)) k
        rw [e1, e2]
        exact Heap.get?_push_size _ rfl
end
/-- the turns of a step range, for the for loop -/
theorem for_rangeC {lo c : Int} {n : Nat} {g : TG} {tb : TS} {D : Ends} {σ : St} {H : Hp} (Pv : Nat → St → Hp → Prop) (h0 : Pv 0 σ H)
    (hs : ∀ i σ H, i < n → Pv i σ H → g (.int (lo + (i : Nat) * c)) σ H fun σ2 H2 => tb { D with nx := Pv (i + 1), ct := Pv (i + 1), bk := D.nx } σ2 H2) (hd : ∀ σ H, Pv n σ H → D.nx σ H) :
    ∃ W : Nat → Nat → St → Hp → Prop, (∃ m, W 0 m σ H) ∧ ∀ i m σ H, W i m σ H →
      ((Itc lo c n).stop i H ∧ D.nx σ H) ∨ ((Itc lo c n).go i H ∧ ∃ N : St → Hp → Prop, (∀ σ' H', N σ' H' → ∃ m', m' < m ∧ W (i + 1) m' σ' H') ∧ ∀ x H', (Itc lo c n).yld i H x H' → g x σ H' fun σ2 H2 => tb { D with nx := N, ct := N, bk := D.nx } σ2 H2) := by
  refine ⟨fun i m σ H => m = n - i ∧ i ≤ n ∧ Pv i σ H, ⟨n, by simp, Nat.zero_le _, h0⟩, ?_⟩
  rintro i m σ H ⟨rfl, hi, p⟩
  by_cases hlt : i < n
  · refine .inr ⟨hlt, Pv (i + 1), fun σ' H' p' => ⟨n - (i + 1), by omega, rfl, hlt, p'⟩, fun x H' y => ?_⟩
    obtain ⟨e, y⟩ := y
    subst e y
    exact hs i σ _ hlt p
  · have e : i = n := by omega
    subst e
    exact .inl ⟨Nat.le_refl _, hd σ H p⟩

/-! ### reversed(list) -/
/-- the list at a (n items at the start, which the loop leaves there), from its end -/
def Itv (K : PySem.W.Frag) (a : Addr) (n : Nat) : It :=
  ⟨fun i H => i < n ∧ ∃ (xs : List V) (x : V), SqL K H a xs ∧ xs[n - 1 - i]? = some x, fun i H x H' => H' = H ∧ ∀ xs, SqL K H a xs → xs[n - 1 - i]? = some x, fun i _ => n ≤ i⟩
theorem turn_rev {P : Program} {w : World} {K : PySem.W.Frag} {tg : Expr} (a it : Addr) (n : Nat) : Turn P w K tg (Itv K a n) [it] it (fun i h => i ≤ n ∧ h.IsRevIter it a ((n : Int) - 1 - (i : Nat))) where
  mem := by simp
  obj := fun i h st b hb => by
    have e : b = it := by simpa using hb
    subst e
    obtain ⟨_, o, e, c, d⟩ := st
    exact ⟨o, e, fun v z => by rw [d] at z; cases z⟩
  keep := fun i h h' st k => ⟨st.1, st.2.at fun o e => k it (by simp) o e⟩
  item := by
    intro X hP hw hK hc i pins s σ H E I hf st hg
    subst hP hw hK
    obtain ⟨hin, xs, x, hq, hx⟩ := hg
    obtain ⟨its, rv, p, hz⟩ := I.list hq
    obtain ⟨u, hu, ru⟩ := rv.get hx
    obtain ⟨f0, f1, f2, f3, f4, f5⟩ := hf it (by simp)
    obtain ⟨_, hit⟩ := st
    have e1 : (n : Int) - 1 - ((i : Nat) : Int) = ((n - 1 - i : Nat) : Int) := by omega
    rw [e1] at hit
    refine wpAny_pyNext_rev_item hit p.isList (x := u) (by simpa using hu) fun h' st' sb => ?_
    have e2 : ((n - 1 - i : Nat) : Int) - 1 = (n : Int) - 1 - ((i + 1 : Nat) : Int) := by omega
    rw [e2] at st'
    have I1 : Inv X pins σ H { s with heap := h' } := I.turned (t' := s.toks) (fun b o hb e => (sb.2 b hb).trans e) f0 f1 f3 f4 f5
    obtain ⟨o, e, c, d⟩ := id st'
    exact ⟨u, rfl, go_of (s := { s with heap := h' }) e c d (by decide) ⟨x, H, I1, ru, ⟨rfl, fun ys hy => by rw [I.list_inj hy hq]; exact hx⟩, ⟨hin, st'⟩, fun b hb => (hf b hb).1⟩⟩
  done := by
    intro X hP hw hK hc i pins s σ H E I hf st hg
    subst hP hw hK
    obtain ⟨f0, f1, f2, f3, f4, f5⟩ := hf it (by simp)
    obtain ⟨hin, hit⟩ := st
    have hge : n ≤ i := hg
    have e1 : (n : Int) - 1 - ((i : Nat) : Int) = -1 := by omega
    rw [e1] at hit
    exact wpAny_pyNext_rev_end (I.ok.hd hc) hit fun h' eb => ⟨rfl, I.turned (t' := s.toks) (fun b o hb e => eb b o hb e) f0 f1 f3 f4 f5⟩
  self := fun A i s Q E st h => wpAny_pyIter_revIter st.2 h
def iRev (K : PySem.W.Frag) (ta : TA) : TI := fun σ H R => ta σ H fun vs H1 => ∃ (a : Addr) (xs : List V), vs = [.ref a] ∧ SqL K H1 a xs ∧ R (Itv K a xs.length) H1
section
variable {X : Cx} {tg : Expr}
theorem pi_reversed {e : Expr} {ta : TA} {p pos : Pos} (hg : Gl X "reversed") (hm : X.mg "reversed" = none) (ha : PA X [e] ta) (hs : starEach [e] X.env = [(false, eval e X.env)] := by rfl) : PI X tg (.Call (.Name "reversed" p) [e] [] pos) (iRev X.K ta) := by
  intro pins s σ H R I h
  refine Call_ (ld_blt I hg hm boot_reversed5 (PyProof.Rows.callWith_type1 (thn (ha pos pins s σ H _ I h) fun us s1 ⟨vs, H1, I1, r1, q1⟩ => ?_) hs rfl))
  obtain ⟨a, xs, e, hq, q⟩ := q1
  subst e
  cases r1 with
  | cons r rr =>
    cases rr
    cases r
    obtain ⟨its, rv, p', hz⟩ := I1.list hq
    have hl := rv.length
    have e1 : ((its.toArray.size : Nat) : Int) - 1 = (xs.length : Int) - 1 - ((0 : Nat) : Int) := by simp only [List.size_toArray]; omega
    refine call_reversed_list p'.isList (wpAny_pyIter_revIter (l := a) (i := ((its.toArray.size : Nat) : Int) - 1) ⟨_, Heap.get?_push_size _ rfl, rfl, rfl⟩ ?_)
    refine pi_one (tk := s1.toks) I1 _ (turn_rev a _ xs.length) ⟨Nat.zero_le _, ?_⟩ q
    rw [← e1]
    exact ⟨_, Heap.get?_push_size _ rfl, rfl, rfl⟩
end

/-! ### a str -/
def Its (x : Str) : It := ⟨fun i _ => i < x.cps.size, fun i H v H' => H' = H ∧ ∃ c, x.cps[i]? = some c ∧ v = .str ⟨#[c]⟩, fun i _ => x.cps.size ≤ i⟩
theorem turn_str {P : Program} {w : World} {K : PySem.W.Frag} {tg : Expr} (it : Addr) (x : Str) (t : Tok) (ty : String) (hty : ty = "str_ascii_iterator" ∨ ty = "str_iterator") :
    Turn P w K tg (Its x) [it] it (fun i h => h.IsStrIter it ty x t i) where
  mem := by simp
  obj := fun i h st b hb => by
    have e : b = it := by simpa using hb
    subst e
    obtain ⟨o, e, c, d⟩ := st
    exact ⟨o, e, fun v z => by rw [d] at z; cases z⟩
  keep := fun i h h' st k => let ⟨o, ho, r⟩ := st; ⟨o, k it (by simp) o ho, r⟩
  item := by
    intro X hP hw hK hc i pins s σ H E I hf st hg
    subst hP hw hK
    obtain ⟨f0, f1, f2, f3, f4, f5⟩ := hf it (by simp)
    have W : Walks X.prog X.w X.A it [it] [it] x.cps.size (SignAt x) (fun i h => h.IsStrIter it ty x t i) := by
      rcases hty with e | e
      · rw [e]; exact Walks.strAscii (I.ok.hd hc) it x t
      · rw [e]; exact Walks.strWide (I.ok.hd hc) it x t
    have hno : ["enumerate", "zip", "dict_itemiterator", "dict_reverseitemiterator", "odict_iterator", "itertools.zip_longest", "itertools.pairwise"].contains ty = false := by
      rcases hty with e | e
      · rw [e]; decide
      · rw [e]; decide
    refine W.item i s _ _ hg st fun v h' tk hv st' kk => ?_
    obtain ⟨c, u, hcx, rfl⟩ := hv
    have I1 : Inv X pins σ H { s with heap := h', toks := tk } := I.turned (fun b o hb e => kk b o (by simpa using hb) e) f0 f1 f3 f4 f5
    obtain ⟨oi, e, cc, dd⟩ := id st'
    exact ⟨_, rfl, go_of (s := { s with heap := h', toks := tk }) e cc dd hno ⟨.str ⟨#[c]⟩, H, I1, ⟨u, rfl⟩, ⟨rfl, c, hcx, rfl⟩, st', fun b hb => (hf b hb).1⟩⟩
  done := by
    intro X hP hw hK hc i pins s σ H E I hf st hg
    subst hP hw hK
    obtain ⟨f0, f1, f2, f3, f4, f5⟩ := hf it (by simp)
    have hx : x.cps[i]? = none := Array.getElem?_eq_none hg
    rcases hty with e | e
    · rw [e] at st
      exact wpAny_pyNext_ascii_end (I.ok.hd hc) st hx fun h' eb => ⟨rfl, I.turned (t' := s.toks) (fun b o hb e => eb b o hb e) f0 f1 f3 f4 f5⟩
    · rw [e] at st
      exact wpAny_pyNext_wide_end (I.ok.hd hc) st hx fun h' eb => ⟨rfl, I.turned (t' := s.toks) (fun b o hb e => eb b o hb e) f0 f1 f3 f4 f5⟩
  self := fun A i s Q E st h => by
    rcases hty with e | e
    · rw [e] at st; exact wpAny_pyIter_striter_ascii st h
    · rw [e] at st; exact wpAny_pyIter_striter_wide st h
def iStr (te : TE) : TI := fun σ H R => te σ H fun v H1 => ∃ x, v = .str x ∧ R (Its x) H1
theorem pi_str {X : Cx} {tg e : Expr} {te : TE} (he : PE X e te) : PI X tg e (iStr te) := by
  intro pins s σ H R I h
  refine thn (he pins s σ H _ I h) fun v s1 ⟨y, H1, I1, r1, x, ex, q⟩ => ?_
  subst ex
  obtain ⟨t, rfl⟩ := r1
  cases ha : x.cps.all (· < 128)
  · exact wpAny_pyIter_wide ha (pi_one (tk := s1.toks) I1 _ (turn_str _ x t "str_iterator" (.inr rfl)) ⟨_, Heap.get?_push_size _ rfl, rfl, rfl⟩ q)
  · exact wpAny_pyIter_ascii ha (pi_one (tk := s1.toks) I1 _ (turn_str _ x t "str_ascii_iterator" (.inl rfl)) ⟨_, Heap.get?_push_size _ rfl, rfl, rfl⟩ q)

/-! ### a dict's keys: any dict's entries -/
section
variable {prog : Program} {w : World} {A : Around} {E : Value → Shared → Prop} {s : Shared}
theorem iter_keys {d : Addr} {o : Obj} {es : Array DictEntry} {ep : Nat} {Q : Value → Shared → Prop} (hd : (d == sysModules) = false) (ho : s.heap.get? d = some o) (hc : o.ExactDict) (hdat : o.data = .dict es ep)
    (hQ : Q (.ref s.heap.objs.size) { s with heap := s.heap.push { cls := .type "dict_keyiterator", data := .fields #[.ref d, .int 0 0, .int es.size 0, .int ep 0] } }) :
    wpAny (model prog w) A (pyIter (.ref d)) Q E s := by
  have hT : s.TypeIs (.ref d) "dict" := ⟨o, ho, hc.1⟩
  refine wpAny_pyIter_slot hT F.slot_dict_iter (wpAny_call_entry F.slot_dict_iter hT F.entry_dict_iter ?_ (F.args_dict_iter_1 _))
  unfold Builtin.«dict.__iter__»
  refine wpAny_bind ?_
  unfold Builtin.Dict.dictSlotNone
  refine wpAny_bind (wpAny_notOrdered_dict hT ?_)
  show wpAny _ _ (pure (Value.ref d)) _ _ s
  refine wpAny_pure ?_
  show wpAny _ _ (Builtin.Dict.showsAll d >>= _) _ _ s
  unfold Builtin.Dict.showsAll
  rw [if_neg (by rw [hd]; exact Bool.false_ne_true)]
  refine wpAny_bind (wpAny_pure ?_)
  refine wpAny_bind (wpAny_dictEntries ho hdat ?_)
  refine wpAny_bind (wpAny_dictEpoch ho hdat ?_)
  refine wpAny_bind (wpAny_newObj_type (wpAny_pure ⟨_, rfl, "dict_keyiterator", _, ⟨_, Heap.get?_push_size _ rfl, rfl⟩, F.slot_dict_keyiterator_next.lookup, ?_⟩))
  simpa [rawInt] using hQ
theorem next_key_item {it d : Addr} {i n ep : Nat} {od : Obj} {es : Array DictEntry} {en : DictEntry} {Q : Option Value → Shared → Prop} (hit : s.heap.IsKeyIter it d i n ep) (hod : s.heap.get? d = some od) (hdd : od.data = .dict es ep)
    (hsz : es.size = n) (hx : es[i]? = some en) (hQ : ∀ h', h'.IsKeyIter it d (i + 1) n ep → Heap.SameBut it s.heap h' → Q (some en.key) { s with heap := h' }) : wpAny (model prog w) A (pyNext (.ref it)) Q E s := by
  obtain ⟨o, ho, hc, hd⟩ := id hit
  unfold pyNext
  refine wpAny_bind (wpAny_attempt (wpAny_callSpecial?_slot (name := Str.ofString "__next__") hit.typeIs F.slot_dict_keyiterator_next
    (wpAny_call_entry F.slot_dict_keyiterator_next hit.typeIs F.entry_dict_keyiterator_next ?_ (F.args_dict_keyiterator_next_1 _))))
  refine wpAny_bind (wpAny_pure ?_)
  refine wpAny_bind ?_
  refine wpAny_bind ?_
  first | refine wpAny_bind (wpAny_typeNameOfWhole_keyiter hit.typeIs (wpAny_pure ?_)) | refine wpAny_bind (wpAny_typeNameOf_keyiter hit.typeIs (wpAny_pure ?_))
  refine wpAny_bind (wpAny_fieldsOf ho hd ?_)
  have hown : Builtin.Dict_items.ownsTuple "dict_keyiterator" = false := by decide
  simp only [hown, Bool.false_eq_true, if_false]
  show wpAny _ _ (if (Value.ref d == Value.none) = true then _ else _) _ _ s
  rw [if_neg (show ¬ ((Value.ref d == Value.none) = true) from Bool.false_ne_true)]
  refine wpAny_bind (wpAny_pure ?_)
  refine wpAny_bind (wpAny_dictEntries hod hdd ?_)
  rw [if_neg (by rw [hsz]; simp)]
  refine wpAny_bind (wpAny_pure ?_)
  refine wpAny_bind (wpAny_dictEpoch hod hdd ?_)
  rw [if_neg (by simp)]
  refine wpAny_pure ?_
  obtain ⟨hlt', hen⟩ := Array.getElem?_eq_some_iff.mp hx
  simp only [show ¬ ((i : Int) < 0) from by omega, if_false, Int.toNat_natCast, Array.getElem?_eq_getElem hlt']
  refine wpAny_bind ?_
  first | refine wpAny_bind (wpAny_typeNameOfWhole_keyiter hit.typeIs (wpAny_pure ?_)) | refine wpAny_bind (wpAny_typeNameOf_keyiter hit.typeIs (wpAny_pure ?_))
  refine wpAny_bind (wpAny_isOneOf_keyiter hit.typeIs ?_)
  show wpAny _ _ (setField (.ref it) 1 (rawInt ((i : Int) + 1)) >>= _) _ _ s
  refine wpAny_bind (wpAny_setField ho hd (by simp) ?_)
  have hit' : (s.heap.update it (Obj.mapFields (·.setIfInBounds 1 (rawInt ((i : Int) + 1))))).IsKeyIter it d (i + 1) n ep :=
    ⟨_, Heap.get?_update_self _ ho (Obj.isFreed_of_fields (Obj.data_mapFields hd _)), (Obj.cls_mapFields ..).trans hc, by rw [Obj.data_mapFields hd]; simp [rawInt]⟩
  refine wpAny_bind (wpAny_holding ?_)
  refine wpAny_bind (wpAny_isOneOf_keyiter (s := { s with heap := s.heap.update it (Obj.mapFields (·.setIfInBounds 1 (rawInt ((i : Int) + 1)))) }) hit'.typeIs ?_)
  show wpAny _ _ (pure es[i].key) _ _ _
  rw [hen]
  exact wpAny_pure (wpAny_pure ⟨_, rfl, wpAny_pure (hQ _ hit' (Heap.SameBut.update ..))⟩)
theorem next_key_end {it d : Addr} {i n ep : Nat} {od : Obj} {es : Array DictEntry} {Q : Option Value → Shared → Prop} (hh : A.handled = none) (hit : s.heap.IsKeyIter it d i n ep) (hod : s.heap.get? d = some od) (hdd : od.data = .dict es ep)
    (hsz : es.size = n) (hge : n ≤ i) (hQ : ∀ h', Heap.ExtBut it s.heap h' → Q none { s with heap := h' }) : wpAny (model prog w) A (pyNext (.ref it)) Q E s := by
  obtain ⟨o, ho, hc, hd⟩ := id hit
  unfold pyNext
  refine wpAny_bind (wpAny_attempt (wpAny_callSpecial?_slot (name := Str.ofString "__next__") hit.typeIs F.slot_dict_keyiterator_next
    (wpAny_call_entry F.slot_dict_keyiterator_next hit.typeIs F.entry_dict_keyiterator_next ?_ (F.args_dict_keyiterator_next_1 _))))
  refine wpAny_bind (wpAny_pure ?_)
  refine wpAny_bind ?_
  refine wpAny_bind ?_
  first | refine wpAny_bind (wpAny_typeNameOfWhole_keyiter hit.typeIs (wpAny_pure ?_)) | refine wpAny_bind (wpAny_typeNameOf_keyiter hit.typeIs (wpAny_pure ?_))
  refine wpAny_bind (wpAny_fieldsOf ho hd ?_)
  have hown : Builtin.Dict_items.ownsTuple "dict_keyiterator" = false := by decide
  simp only [hown, Bool.false_eq_true, if_false]
  show wpAny _ _ (if (Value.ref d == Value.none) = true then _ else _) _ _ s
  rw [if_neg (show ¬ ((Value.ref d == Value.none) = true) from Bool.false_ne_true)]
  refine wpAny_bind (wpAny_pure ?_)
  refine wpAny_bind (wpAny_dictEntries hod hdd ?_)
  rw [if_neg (by rw [hsz]; simp)]
  refine wpAny_bind (wpAny_pure ?_)
  refine wpAny_bind (wpAny_dictEpoch hod hdd ?_)
  rw [if_neg (by simp)]
  refine wpAny_pure ?_
  have hge' : es.size ≤ i := by rw [hsz]; exact hge
  simp only [show ¬ ((i : Int) < 0) from by omega, if_false, Int.toNat_natCast, Array.getElem?_eq_none hge']
  refine wpAny_bind ?_
  first | refine wpAny_bind (wpAny_typeNameOfWhole_keyiter hit.typeIs (wpAny_pure ?_)) | refine wpAny_bind (wpAny_typeNameOf_keyiter hit.typeIs (wpAny_pure ?_))
  show wpAny _ _ (setField (.ref it) 0 .none >>= _) _ _ s
  refine wpAny_bind (wpAny_setField ho hd (by simp) ?_)
  show wpAny _ _ (newExc (.type "StopIteration") [] >>= _) _ _ _
  refine wpAny_bind ?_
  simp only [newExc, newTuple]
  refine wpAny_bind (wpAny_newObj_type ?_ (by size_fits))
  refine wpAny_bind (m := firstArgMember _ _) (wpAny_of_eq (a := Value.none) (by first | rfl | (simp only [firstArgMember]; rfl)) ?_)
  refine wpAny_newObj_type ?_ (by size_fits)
  simp only [raiseNew]
  refine wpAny_bind (wpAny_handled ?_)
  rw [show A.in1.handled = none from hh]
  refine wpAny_bind (wpAny_pure (wpAny_throw ?_))
  refine wpAny_bind (wpAny_isInstance (T := "StopIteration") (b := true) ⟨_, Heap.get?_push_size _ rfl, rfl⟩ isSubtype_stop ?_)
  exact wpAny_pure (hQ _ (((Heap.SameBut.update ..).extBut.push _).push _))
end

/-! ### a locked dict -/
theorem kv_get {κ : Type} {kvs : List (κ × V)} {vs : List (κ × Value)} (h : KV kvs vs) : ∀ {i : Nat} {k : κ} {v : V}, kvs[i]? = some (k, v) → ∃ u, vs[i]? = some (k, u) ∧ RelV v u := by
  unfold KV at h
  induction h with
  | nil => intro i k v e; simp at e
  | @cons a b l₁ l₂ r t ih =>
    intro i k v e
    cases i with
    | zero =>
      simp only [List.getElem?_cons_zero, Option.some.injEq] at e
      subst e
      refine ⟨b.2, ?_, r.2⟩
      simp only [List.getElem?_cons_zero]
      exact congrArg some (Prod.ext r.1.symm rfl)
    | succ j =>
      simp only [List.getElem?_cons_succ] at e ⊢
      exact ih e
theorem paired_get {α β : Type} {G : α → β → Prop} {l₁ : List α} {l₂ : List β} (h : Paired G l₁ l₂) : ∀ {i : Nat} {a : α}, l₁[i]? = some a → ∃ b, l₂[i]? = some b ∧ G a b := by
  induction h with
  | nil => intro i a e; simp at e
  | @cons a b l₁ l₂ r t ih =>
    intro i a' e
    cases i with
    | zero =>
      simp only [List.getElem?_cons_zero, Option.some.injEq] at e
      subst e
      exact ⟨b, rfl, r⟩
    | succ j =>
      simp only [List.getElem?_cons_succ] at e ⊢
      exact ih e
theorem relV_key {k : Key} {u : Value} (h : keyIs k u = true) : RelV (kV k) u := by
  rcases keyIs_shape h with ⟨i, t, rfl, rfl⟩ | ⟨x, t, rfl, rfl⟩
  · exact ⟨t, rfl⟩
  · exact ⟨t, rfl⟩
section
variable {X : Cx} {pins : List (Addr × Obj)} {σ : St} {H : Hp} {s : Shared} {d : Addr} {o : Obj}
theorem Inv.frzK {kvs : List (Key × V)} (I : Inv X pins σ H s) (h : H d = some (.frz o (.dK kvs))) :
    (d == sysModules) = false ∧ s.heap.get? d = some o ∧ o.ExactDict ∧ ∃ (es : Array DictEntry) (ep : Nat) (vs : List (Key × Value)), o.data = .dict es ep ∧ es.size = kvs.length ∧ KV kvs vs ∧ s.heap.DictAt (mixKind X.prog X.w) d vs ep := by
  obtain ⟨hd, z, hs, vs, kv, o', es, ep, ho, hx, hdt, r⟩ := I.hok d _ h
  rw [hd] at ho
  cases ho
  refine ⟨hs, hd, hx, es, ep, vs, hdt, ?_, kv, o, es, hd, hx, hdt, r⟩
  have l1 := r.2.1.length
  have l2 : kvs.length = vs.length := Paired.length kv
  rw [Array.length_toList] at l1
  omega
/-- the same for tuple keys -/
theorem Inv.frzT {kvs : List (List Key × V)} (I : Inv X pins σ H s) (h : H d = some (.frz o (.dT kvs))) :
    (d == sysModules) = false ∧ s.heap.get? d = some o ∧ o.ExactDict ∧ ∃ (es : Array DictEntry) (ep : Nat), o.data = .dict es ep ∧ es.size = kvs.length ∧
      ∀ (i : Nat) (k : List Key) (v : V), kvs[i]? = some (k, v) → ∃ (en : DictEntry) (q : Addr), es[i]? = some en ∧ en.key = .ref q ∧ H q = some (.tup (k.map kV)) := by
  obtain ⟨hd, z, hs, xs, pr, o', es, ep, ho, hx, hdt, he, _⟩ := I.hok d _ h
  rw [hd] at ho
  cases ho
  refine ⟨hs, hd, hx, es, ep, hdt, ?_, fun i k v e => ?_⟩
  · have l1 : es.size = xs.length := size_of_entries he
    have l2 : kvs.length = xs.length := Paired.length pr
    omega
  · obtain ⟨b, hb, e1, e2, _⟩ := paired_get pr e
    have q := entry_at he i
    rw [hb] at q
    exact ⟨_, b.2.1, q, rfl, e2⟩
end

/-- the keys of the locked dict at d, in their order -/
def Itk (d : Addr) (o : Obj) (kvs : List (Key × V)) : It :=
  ⟨fun i H => H d = some (.frz o (.dK kvs)) ∧ i < kvs.length, fun i H x H' => H' = H ∧ ∃ k v, kvs[i]? = some (k, v) ∧ x = kV k, fun i H => H d = some (.frz o (.dK kvs)) ∧ kvs.length ≤ i⟩
/-- .. of tuple keys: the key's own tuple -/
def Itkt (d : Addr) (o : Obj) (kvs : List (List Key × V)) : It :=
  ⟨fun i H => H d = some (.frz o (.dT kvs)) ∧ i < kvs.length, fun i H x H' => H' = H ∧ ∃ (k : List Key) (v : V) (q : Addr), kvs[i]? = some (k, v) ∧ x = .ref q ∧ H q = some (.tup (k.map kV)), fun i H => H d = some (.frz o (.dT kvs)) ∧ kvs.length ≤ i⟩
/-- the values -/
def Itd (d : Addr) (o : Obj) (kvs : List (Key × V)) : It :=
  ⟨fun i H => H d = some (.frz o (.dK kvs)) ∧ i < kvs.length, fun i H x H' => H' = H ∧ ∃ k, kvs[i]? = some (k, x), fun i H => H d = some (.frz o (.dK kvs)) ∧ kvs.length ≤ i⟩
/-- the pairs, each a new tuple -/
def Iti (d : Addr) (o : Obj) (kvs : List (Key × V)) : It :=
  ⟨fun i H => H d = some (.frz o (.dK kvs)) ∧ i < kvs.length, fun i H x H' => ∃ T k v, kvs[i]? = some (k, v) ∧ x = .ref T ∧ H T = none ∧ H' = upd H T (.tup [kV k, v]), fun i H => H d = some (.frz o (.dK kvs)) ∧ kvs.length ≤ i⟩
theorem dict_ep {o : Obj} {es es' : Array DictEntry} {ep ep' : Nat} (h : o.data = .dict es ep) (h' : o.data = .dict es' ep') : es' = es ∧ ep' = ep := by
  rw [h] at h'
  cases h'
  exact ⟨rfl, rfl⟩
section
variable {P : Program} {w : World} {K : PySem.W.Frag} {tg : Expr} {d : Addr} {o : Obj} {es : Array DictEntry} {ep : Nat}
theorem turn_keys {kvs : List (Key × V)} (it : Addr) (hod : o.data = .dict es ep) : Turn P w K tg (Itk d o kvs) [it] it (fun i h => h.IsKeyIter it d i kvs.length ep) where
  mem := by simp
  obj := fun i h st b hb => by
    have e : b = it := by simpa using hb
    subst e
    obtain ⟨oi, e, c, dd⟩ := st
    exact ⟨oi, e, fun v z => by rw [dd] at z; cases z⟩
  keep := fun i h h' st k => st.at fun oi e => k it (by simp) oi e
  item := by
    intro X hP hw hK hc i pins s σ H E I hf st hg
    subst hP hw hK
    obtain ⟨hd, hi⟩ := hg
    obtain ⟨f0, f1, f2, f3, f4, f5⟩ := hf it (by simp)
    obtain ⟨hs, hgd, hx, es', ep', vs, hdt, hsz, kv, hm⟩ := I.frzK hd
    obtain ⟨rfl, rfl⟩ := dict_ep hod hdt
    obtain ⟨⟨k, v⟩, hkv⟩ : ∃ p, kvs[i]? = some p := ⟨kvs[i], List.getElem?_eq_getElem hi⟩
    obtain ⟨u, hu, ru⟩ := kv_get kv hkv
    have hl : kvs.length = vs.length := Paired.length kv
    rw [hl] at st
    refine wpAny_pyNext_dict_item st hm hu fun key h' hkey st' sb => ?_
    have I1 : Inv X pins σ H { s with heap := h' } := I.turned (t' := s.toks) (fun b ob hb e => (sb.2 b hb).trans e) f0 f1 f3 f4 f5
    obtain ⟨oi, e, c, dd⟩ := id st'
    refine ⟨key, rfl, go_of (s := { s with heap := h' }) e c dd (by decide) ⟨kV k, H, I1, relV_key (show keyIs k key = true from hkey), ⟨rfl, k, v, hkv, rfl⟩, ?_, fun b hb => (hf b hb).1⟩⟩
    show h'.IsKeyIter it d (i + 1) kvs.length _
    rw [hl]
    exact st'
  done := by
    intro X hP hw hK hc i pins s σ H E I hf st hg
    subst hP hw hK
    obtain ⟨hd, hi⟩ := hg
    obtain ⟨f0, f1, f2, f3, f4, f5⟩ := hf it (by simp)
    obtain ⟨hs, hgd, hx, es', ep', vs, hdt, hsz, kv, hm⟩ := I.frzK hd
    obtain ⟨rfl, rfl⟩ := dict_ep hod hdt
    exact next_key_end (I.ok.hd hc) st hgd hdt hsz hi fun h' eb => ⟨rfl, I.turned (t' := s.toks) (fun b ob hb e => eb b ob hb e) f0 f1 f3 f4 f5⟩
  self := fun A i s Q E st h => wpAny_pyIter_keyiter st h
theorem turn_keysT {kvs : List (List Key × V)} (it : Addr) (hod : o.data = .dict es ep) : Turn P w K tg (Itkt d o kvs) [it] it (fun i h => h.IsKeyIter it d i kvs.length ep) where
  mem := by simp
  obj := fun i h st b hb => by
    have e : b = it := by simpa using hb
    subst e
    obtain ⟨oi, e, c, dd⟩ := st
    exact ⟨oi, e, fun v z => by rw [dd] at z; cases z⟩
  keep := fun i h h' st k => st.at fun oi e => k it (by simp) oi e
  item := by
    intro X hP hw hK hc i pins s σ H E I hf st hg
    subst hP hw hK
    obtain ⟨hd, hi⟩ := hg
    obtain ⟨f0, f1, f2, f3, f4, f5⟩ := hf it (by simp)
    obtain ⟨hs, hgd, hx, es', ep', hdt, hsz, ent⟩ := I.frzT hd
    obtain ⟨rfl, rfl⟩ := dict_ep hod hdt
    obtain ⟨⟨k, v⟩, hkv⟩ : ∃ p, kvs[i]? = some p := ⟨kvs[i], List.getElem?_eq_getElem hi⟩
    obtain ⟨en, q, hen, hkey, hq⟩ := ent i k v hkv
    refine next_key_item st hgd hdt hsz hen fun h' st' sb => ?_
    have I1 : Inv X pins σ H { s with heap := h' } := I.turned (t' := s.toks) (fun b ob hb e => (sb.2 b hb).trans e) f0 f1 f3 f4 f5
    obtain ⟨oi, e, c, dd⟩ := id st'
    exact ⟨en.key, rfl, go_of (s := { s with heap := h' }) e c dd (by decide) ⟨.ref q, H, I1, hkey, ⟨rfl, k, v, q, hkv, rfl, hq⟩, st', fun b hb => (hf b hb).1⟩⟩
  done := by
    intro X hP hw hK hc i pins s σ H E I hf st hg
    subst hP hw hK
    obtain ⟨hd, hi⟩ := hg
    obtain ⟨f0, f1, f2, f3, f4, f5⟩ := hf it (by simp)
    obtain ⟨hs, hgd, hx, es', ep', hdt, hsz, ent⟩ := I.frzT hd
    obtain ⟨rfl, rfl⟩ := dict_ep hod hdt
    exact next_key_end (I.ok.hd hc) st hgd hdt hsz hi fun h' eb => ⟨rfl, I.turned (t' := s.toks) (fun b ob hb e => eb b ob hb e) f0 f1 f3 f4 f5⟩
  self := fun A i s Q E st h => by
    refine wpAny_pyIter_slot st.typeIs F.slot_dict_keyiterator_iter (wpAny_call_entry F.slot_dict_keyiterator_iter st.typeIs F.entry_dict_keyiterator_iter ?_ (F.args_dict_keyiterator_iter_1 _))
    show wpAny _ _ (ret (.ref it)) _ _ s
    exact wpAny_pure ⟨_, rfl, "dict_keyiterator", _, st.typeIs, F.slot_dict_keyiterator_next.lookup, h⟩
theorem turn_vals {kvs : List (Key × V)} (it : Addr) (hod : o.data = .dict es ep) : Turn P w K tg (Itd d o kvs) [it] it (fun i h => h.IsValIter it d i kvs.length ep) where
  mem := by simp
  obj := fun i h st b hb => by
    have e : b = it := by simpa using hb
    subst e
    obtain ⟨oi, e, c, dd⟩ := st
    exact ⟨oi, e, fun v z => by rw [dd] at z; cases z⟩
  keep := fun i h h' st k => st.at fun oi e => k it (by simp) oi e
  item := by
    intro X hP hw hK hc i pins s σ H E I hf st hg
    subst hP hw hK
    obtain ⟨hd, hi⟩ := hg
    obtain ⟨f0, f1, f2, f3, f4, f5⟩ := hf it (by simp)
    obtain ⟨hs, hgd, hx, es', ep', vs, hdt, hsz, kv, hm⟩ := I.frzK hd
    obtain ⟨rfl, rfl⟩ := dict_ep hod hdt
    obtain ⟨⟨k, v⟩, hkv⟩ : ∃ p, kvs[i]? = some p := ⟨kvs[i], List.getElem?_eq_getElem hi⟩
    obtain ⟨u, hu, ru⟩ := kv_get kv hkv
    have hl : kvs.length = vs.length := Paired.length kv
    rw [hl] at st
    refine wpAny_pyNext_values_item st hm hu fun h' st' sb => ?_
    have I1 : Inv X pins σ H { s with heap := h' } := I.turned (t' := s.toks) (fun b ob hb e => (sb.2 b hb).trans e) f0 f1 f3 f4 f5
    obtain ⟨oi, e, c, dd⟩ := id st'
    refine ⟨u, rfl, go_of (s := { s with heap := h' }) e c dd (by decide) ⟨v, H, I1, ru, ⟨rfl, k, hkv⟩, ?_, fun b hb => (hf b hb).1⟩⟩
    show h'.IsValIter it d (i + 1) kvs.length _
    rw [hl]
    exact st'
  done := by
    intro X hP hw hK hc i pins s σ H E I hf st hg
    subst hP hw hK
    obtain ⟨hd, hi⟩ := hg
    obtain ⟨f0, f1, f2, f3, f4, f5⟩ := hf it (by simp)
    obtain ⟨hs, hgd, hx, es', ep', vs, hdt, hsz, kv, hm⟩ := I.frzK hd
    obtain ⟨rfl, rfl⟩ := dict_ep hod hdt
    have hl : kvs.length = vs.length := Paired.length kv
    rw [hl] at st
    exact wpAny_pyNext_values_end (I.ok.hd hc) st hm (List.getElem?_eq_none (by omega)) fun h' eb => ⟨rfl, I.turned (t' := s.toks) (fun b ob hb e => eb b ob hb e) f0 f1 f3 f4 f5⟩
  self := fun A i s Q E st h => wpAny_pyIter_valiter st h
theorem turn_items {kvs : List (Key × V)} {elts : List Expr} {kk : Nat} {tpos : Pos} (it : Addr) (hod : o.data = .dict es ep) :
    Turn P w K (.Tuple elts kk tpos) (Iti d o kvs) [it] it (fun i h => ∃ ok ov, IsItemIter h it d i kvs.length ep ok ov) where
  mem := by simp
  obj := fun i h st b hb => by
    have e : b = it := by simpa using hb
    subst e
    obtain ⟨ok, ov, e⟩ := st
    exact ⟨_, e, fun v z => nomatch z⟩
  keep := fun i h h' st k => let ⟨ok, ov, e⟩ := st; ⟨ok, ov, k it (by simp) _ e⟩
  item := by
    intro X hP hw hK hc i pins s σ H E I hf st hg
    subst hP hw hK
    obtain ⟨hd, hi⟩ := hg
    obtain ⟨hs, hgd, hx, es', ep', vs, hdt, hsz, kv, hm⟩ := I.frzK hd
    obtain ⟨rfl, rfl⟩ := dict_ep hod hdt
    obtain ⟨⟨k, v⟩, hkv⟩ : ∃ p, kvs[i]? = some p := ⟨kvs[i], List.getElem?_eq_getElem hi⟩
    obtain ⟨u, hu, ru⟩ := kv_get kv hkv
    have hl : kvs.length = vs.length := Paired.length kv
    obtain ⟨ok, ov, he⟩ := st
    rw [hl] at he
    have hlt : it < s.heap.objs.size := Heap.lt_size he
    refine wpAny_pyNext_items_item he hm hu fun key h' hkey ho hT hz hk => ?_
    refine ⟨_, rfl, wpAny_letOwnedTupleGo_items (s := { s with heap := h' }) ho fun h'' he' sb => ?_⟩
    have hT2 : h''.get? s.heap.objs.size = some { cls := .type "tuple", data := .seq #[key, u] } := (sb.2 _ (Nat.ne_of_gt hlt)).trans hT
    have new : ObjOk X.prog X.w (upd H s.heap.objs.size (.tup [kV k, v])) h'' s.heap.objs.size (.tup [kV k, v]) :=
      ⟨by show 2 ≤ sizeLine; decide, [key, u], .cons (relV_key (show keyIs k key = true from hkey)) (.cons ru .nil), ⟨_, hT2, rfl, _, rfl⟩⟩
    have I1 : Inv X pins σ (upd H s.heap.objs.size (.tup [kV k, v])) { s with heap := h'' } :=
      I.turnedNew (t' := s.toks) (ch := [it]) (fun b ob hb e => (sb.2 b (by simpa using hb)).trans (hk b ob (by simpa using hb) e)) hf (Nat.le_refl _) new
    refine ⟨.ref s.heap.objs.size, _, I1, rfl, ⟨_, k, v, hkv, rfl, I.hok.fresh (Nat.le_refl _), rfl⟩, ⟨key, u, ?_⟩, fun b hb => ?_⟩
    · rw [hl]; exact he'
    · have e : b = it := by simpa using hb
      rw [e, upd_ne (Nat.ne_of_lt hlt)]
      exact (hf it (by simp)).1
  done := by
    intro X hP hw hK hc i pins s σ H E I hf st hg
    subst hP hw hK
    obtain ⟨hd, hi⟩ := hg
    obtain ⟨f0, f1, f2, f3, f4, f5⟩ := hf it (by simp)
    obtain ⟨hs, hgd, hx, es', ep', vs, hdt, hsz, kv, hm⟩ := I.frzK hd
    obtain ⟨rfl, rfl⟩ := dict_ep hod hdt
    have hl : kvs.length = vs.length := Paired.length kv
    obtain ⟨ok, ov, he⟩ := st
    rw [hl] at he
    exact wpAny_pyNext_items_end (I.ok.hd hc) he hm (List.getElem?_eq_none (by omega)) fun h' eb => ⟨rfl, I.turned (t' := s.toks) (fun b ob hb e => eb b ob hb e) f0 f1 f3 f4 f5⟩
  self := fun A i s Q E st h => let ⟨_, _, e⟩ := st; PySem.W.kcp_self e h
end

/-! ### for k in d, d.keys(), d.values(), d.items() -/
/-- the dict is locked (tLock, or by the caller) -/
def iKeys (td : TE) : TI := fun σ H R => td σ H fun x H1 => ∃ d o, x = .ref d ∧ ((∃ kvs, H1 d = some (.frz o (.dK kvs)) ∧ R (Itk d o kvs) H1) ∨ ∃ kvs, H1 d = some (.frz o (.dT kvs)) ∧ R (Itkt d o kvs) H1)
def iVals (td : TE) : TI := fun σ H R => td σ H fun x H1 => ∃ d o kvs, x = .ref d ∧ H1 d = some (.frz o (.dK kvs)) ∧ R (Itd d o kvs) H1
def iItems (td : TE) : TI := fun σ H R => td σ H fun x H1 => ∃ d o kvs, x = .ref d ∧ H1 d = some (.frz o (.dK kvs)) ∧ R (Iti d o kvs) H1
def iKeysM (td : TE) : TI := fun σ H R => td σ H fun x H1 => ∃ d o kvs, x = .ref d ∧ H1 d = some (.frz o (.dK kvs)) ∧ R (Itk d o kvs) H1
section
variable {X : Cx} {tg e : Expr} {td : TE} {apos cpos : Pos}
theorem pi_keys (he : PE X e td) : PI X tg e (iKeys td) := by
  intro pins s σ H R I h
  refine thn (he pins s σ H _ I h) fun u s1 ⟨x, H1, I1, rx, d, o, ex, q⟩ => ?_
  subst ex
  obtain rfl : u = Value.ref d := rx
  rcases q with ⟨kvs, hd, q⟩ | ⟨kvs, hd, q⟩
  · obtain ⟨hs, hgd, hx, es, ep, vs, hdt, hsz, kv, hm⟩ := I1.frzK hd
    refine iter_keys hs hgd hx hdt (pi_one (tk := s1.toks) I1 _ (turn_keys _ hdt) ⟨_, Heap.get?_push_size _ rfl, rfl, ?_⟩ q)
    rw [hsz] <;> rfl
  · obtain ⟨hs, hgd, hx, es, ep, hdt, hsz, ent⟩ := I1.frzT hd
    refine iter_keys hs hgd hx hdt (pi_one (tk := s1.toks) I1 _ (turn_keysT _ hdt) ⟨_, Heap.get?_push_size _ rfl, rfl, ?_⟩ q)
    rw [hsz] <;> rfl
theorem pi_values (he : PE X e td) (hbase : attributeBase e "values" X.env (eval e X.env) = eval e X.env := by rfl) (hline : (apos.endLine == cpos.line) = true := by rfl) : PI X tg (.Call (.Attribute e "values" apos) [] [] cpos) (iVals td) := by
  intro pins s σ H R I h
  refine wpAny_Call_method (T := "dict") (id := "dict.values") hbase rfl hline F.plainAttrs_dict F.slot_dict_values F.type_dict_values (thn (he pins s σ H _ I h) fun u s1 ⟨x, H1, I1, rx, d, o, kvs, ex, hd, q⟩ => ?_)
  subst ex
  obtain rfl : u = Value.ref d := rx
  obtain ⟨hs, hgd, hx, es, ep, vs, hdt, hsz, kv, hm⟩ := I1.frzK hd
  have hl : kvs.length = vs.length := Paired.length kv
  refine ⟨hm.dictOf.typeIs, hm.dictOf.mapOf.noDict, ?_⟩
  have I2 : Inv X pins σ H1 { s1 with heap := s1.heap.push { cls := .type "dict_values", data := .fields #[.ref d] } } := I1.kept (t' := s1.toks) fun b ob q => Heap.get?_push_of_some _ q
  have fin : wpAny (model X.prog X.w) X.A (pyIter (.ref s1.heap.objs.size)) (PIE X pins σ tg R) X.xe { s1 with heap := s1.heap.push { cls := .type "dict_values", data := .fields #[.ref d] } } := by
    refine wpAny_pyIter_values (d := d) (knd := mixKind X.prog X.w) ⟨_, Heap.get?_push_size _ rfl, rfl, rfl⟩ (hm.push _) (pi_one (tk := s1.toks) I2 _ (turn_vals _ hdt) ⟨_, Heap.get?_push_size _ rfl, rfl, ?_⟩ q)
    rw [hl] <;> rfl
  show wpAny _ _ (callWith cpos (.builtin "dict.values") [.ref d] [] []) _ X.xe s1
  exact method_meetsIn F.slot_dict_values F.entry_dict_values rfl (PySem.evalArgs_none ⟨rfl, hm.dictOf.typeIs, F.args_dict_values_1 _, _, meets_dict_values (mixKind X.prog X.w) d hs, ⟨vs, hm.dictOf⟩, fin⟩)
theorem pi_items {elts : List Expr} {kk : Nat} {tpos : Pos} (he : PE X e td) (hbase : attributeBase e "items" X.env (eval e X.env) = eval e X.env := by rfl) (hline : (apos.endLine == cpos.line) = true := by rfl) :
    PI X (.Tuple elts kk tpos) (.Call (.Attribute e "items" apos) [] [] cpos) (iItems td) := by
  intro pins s σ H R I h
  refine wpAny_Call_method (T := "dict") (id := "dict.items") hbase rfl hline F.plainAttrs_dict F.slot_dict_items F.type_dict_items (thn (he pins s σ H _ I h) fun u s1 ⟨x, H1, I1, rx, d, o, kvs, ex, hd, q⟩ => ?_)
  subst ex
  obtain rfl : u = Value.ref d := rx
  obtain ⟨hs, hgd, hx, es, ep, vs, hdt, hsz, kv, hm⟩ := I1.frzK hd
  have hl : kvs.length = vs.length := Paired.length kv
  refine ⟨hm.dictOf.typeIs, hm.dictOf.mapOf.noDict, ?_⟩
  have I2 : Inv X pins σ H1 { s1 with heap := s1.heap.push { cls := .type "dict_items", data := .fields #[.ref d] } } := I1.kept (t' := s1.toks) fun b ob q => Heap.get?_push_of_some _ q
  have fin : wpAny (model X.prog X.w) X.A (pyIter (.ref s1.heap.objs.size)) (PIE X pins σ (.Tuple elts kk tpos) R) X.xe { s1 with heap := s1.heap.push { cls := .type "dict_items", data := .fields #[.ref d] } } := by
    refine wpAny_pyIter_items (d := d) (knd := mixKind X.prog X.w) ⟨_, Heap.get?_push_size _ rfl, rfl, rfl⟩ (hm.push _) (pi_one (tk := s1.toks) I2 _ (turn_items _ hdt) ⟨.none, .none, ?_⟩ q)
    rw [hl]
    exact Heap.get?_push_size _ rfl
  show wpAny _ _ (callWith cpos (.builtin "dict.items") [.ref d] [] []) _ X.xe s1
  exact method_meetsIn F.slot_dict_items F.entry_dict_items rfl (PySem.evalArgs_none ⟨rfl, hm.dictOf.typeIs, F.args_dict_items_1 _, _, meets_dict_items (mixKind X.prog X.w) d hs, ⟨vs, hm.dictOf⟩, fin⟩)
theorem pi_keysM (he : PE X e td) (hbase : attributeBase e "keys" X.env (eval e X.env) = eval e X.env := by rfl) (hline : (apos.endLine == cpos.line) = true := by rfl) : PI X tg (.Call (.Attribute e "keys" apos) [] [] cpos) (iKeysM td) := by
  intro pins s σ H R I h
  refine wpAny_Call_method (T := "dict") (id := "dict.keys") hbase rfl hline F.plainAttrs_dict F.slot_dict_keys F.type_dict_keys (thn (he pins s σ H _ I h) fun u s1 ⟨x, H1, I1, rx, d, o, kvs, ex, hd, q⟩ => ?_)
  subst ex
  obtain rfl : u = Value.ref d := rx
  obtain ⟨hs, hgd, hx, es, ep, vs, hdt, hsz, kv, hm⟩ := I1.frzK hd
  have hl : kvs.length = vs.length := Paired.length kv
  refine ⟨hm.dictOf.typeIs, hm.dictOf.mapOf.noDict, ?_⟩
  have I2 : Inv X pins σ H1 { s1 with heap := s1.heap.push { cls := .type "dict_keys", data := .fields #[.ref d] } } := I1.kept (t' := s1.toks) fun b ob q => Heap.get?_push_of_some _ q
  have fin : wpAny (model X.prog X.w) X.A (pyIter (.ref s1.heap.objs.size)) (PIE X pins σ tg R) X.xe { s1 with heap := s1.heap.push { cls := .type "dict_keys", data := .fields #[.ref d] } } := by
    refine PySem.W.kdl_pyIter_keys (d := d) (knd := mixKind X.prog X.w) ⟨_, Heap.get?_push_size _ rfl, rfl, rfl⟩ (hm.push _) (pi_one (tk := s1.toks) I2 _ (turn_keys _ hdt) ⟨_, Heap.get?_push_size _ rfl, rfl, ?_⟩ q)
    rw [hl] <;> rfl
  show wpAny _ _ (callWith cpos (.builtin "dict.keys") [.ref d] [] []) _ X.xe s1
  exact method_meetsIn F.slot_dict_keys F.entry_dict_keys rfl (PySem.evalArgs_none ⟨rfl, hm.dictOf.typeIs, F.args_dict_keys_1 _, _, PySem.W.kdl_meets_keys (mixKind X.prog X.w) d hs, ⟨vs, hm.dictOf⟩, fin⟩)
end

/-! ### enumerate(list) -/
/-- the list at a as it stands at each turn, each item in a new pair -/
def Ite (K : PySem.W.Frag) (a : Addr) : It :=
  ⟨fun i H => ∃ (xs : List V) (x : V), SqL K H a xs ∧ xs[i]? = some x, fun i H v H' => ∃ T x, v = .ref T ∧ H T = none ∧ H' = upd H T (.tup [.int (i : Nat), x]) ∧ ∀ xs, SqL K H a xs → xs[i]? = some x, fun i H => ∃ xs : List V, SqL K H a xs ∧ xs.length ≤ i⟩
theorem turn_enum {P : Program} {w : World} {K : PySem.W.Frag} {elts : List Expr} {kk : Nat} {tpos : Pos} (a e it : Addr) :
    Turn P w K (.Tuple elts kk tpos) (Ite K a) [e, it] e (fun i h => (∃ old, IsEnum h e it ((i : Nat) : Int) old) ∧ h.IsListIter it a i ∧ e ≠ it) where
  mem := by simp
  obj := fun i h st b hb => by
    obtain ⟨⟨old, he⟩, ⟨o, ho, hc, hd⟩, _⟩ := st
    have e' : b = e ∨ b = it := by simpa using hb
    rcases e' with z | z
    · rw [z]; exact ⟨_, he, fun v q => nomatch q⟩
    · rw [z]; exact ⟨o, ho, fun v q => by rw [hd] at q; cases q⟩
  keep := fun i h h' st k => let ⟨⟨old, he⟩, hi, hne⟩ := st; ⟨⟨old, k e (by simp) _ he⟩, hi.at fun o q => k it (by simp) o q, hne⟩
  item := by
    intro X hP hw hK hc i pins s σ H E I hf st hg
    subst hP hw hK
    obtain ⟨⟨old, he⟩, hit, hne⟩ := st
    obtain ⟨xs, x, hq, hx⟩ := hg
    obtain ⟨its, rv, p, hz⟩ := I.list hq
    obtain ⟨u, hu, ru⟩ := rv.get hx
    have hel : e < s.heap.objs.size := Heap.lt_size he
    have hil : it < s.heap.objs.size := by obtain ⟨_, q, _⟩ := hit; exact Heap.lt_size q
    refine wpAny_pyNext_enum_item he hit p.isList (x := u) (by simpa using hu) hne fun h' ho hit' hT hsz hk => ?_
    refine ⟨_, rfl, wpAny_letOwnedTupleGo_enum (s := { s with heap := h', toks := s.toks + 1 }) ho fun h'' he' sb => ?_⟩
    have hT2 : h''.get? s.heap.objs.size = some { cls := .type "tuple", data := .seq #[.int i s.toks, u] } := (sb.2 _ (Nat.ne_of_gt hel)).trans hT
    have new : ObjOk X.prog X.w (upd H s.heap.objs.size (.tup [.int (i : Nat), x])) h'' s.heap.objs.size (.tup [.int (i : Nat), x]) :=
      ⟨by show 2 ≤ sizeLine; decide, [.int i s.toks, u], .cons ⟨_, rfl⟩ (.cons ru .nil), ⟨_, hT2, rfl, _, rfl⟩⟩
    have I1 : Inv X pins σ (upd H s.heap.objs.size (.tup [.int (i : Nat), x])) { s with heap := h'', toks := s.toks + 1 } :=
      I.turnedNew (ch := [e, it]) (fun b ob hb q => (sb.2 b (fun z => hb (by simp [z]))).trans (hk b ob (fun z => hb (by simp [z])) (fun z => hb (by simp [z])) q)) hf (Nat.le_refl _) new
    refine ⟨.ref s.heap.objs.size, _, I1, rfl, ⟨_, x, rfl, I.hok.fresh (Nat.le_refl _), rfl, fun ys hy => by rw [I.list_inj hy hq]; exact hx⟩, ⟨⟨u, ?_⟩, hit'.at fun o q => (sb.2 it (Ne.symm hne)).trans q, hne⟩, fun b hb => ?_⟩
    · have e1 : ((i + 1 : Nat) : Int) = (i : Int) + 1 := by omega
      rw [e1]; exact he'
    · have hb' : b < s.heap.objs.size := by
        have e' : b = e ∨ b = it := by simpa using hb
        rcases e' with z | z
        · rw [z]; exact hel
        · rw [z]; exact hil
      rw [upd_ne (Nat.ne_of_lt hb')]
      exact (hf b hb).1
  done := by
    intro X hP hw hK hc i pins s σ H E I hf st hg
    subst hP hw hK
    obtain ⟨⟨old, he⟩, hit, hne⟩ := st
    obtain ⟨xs, hq, hx⟩ := hg
    obtain ⟨its, rv, p, hz⟩ := I.list hq
    obtain ⟨f0, f1, f2, f3, f4, f5⟩ := hf it (by simp)
    have hl := rv.length
    exact wpAny_pyNext_enum_end (I.ok.hd hc) he hit p.isList (by simp; omega) fun h' eb => ⟨rfl, I.turned (t' := s.toks) (fun b o hb q => eb b o hb q) f0 f1 f3 f4 f5⟩
  self := fun A i s Q E st h => let ⟨⟨_, he⟩, _⟩ := st; wpAny_pyIter_enum he h
def iEnum (K : PySem.W.Frag) (ta : TA) : TI := fun σ H R => ta σ H fun vs H1 => ∃ a xs, vs = [.ref a] ∧ SqL K H1 a xs ∧ R (Ite K a) H1
theorem pi_enum {X : Cx} {e : Expr} {ta : TA} {p pos tpos : Pos} {elts : List Expr} {kk : Nat} (hg : Gl X "enumerate") (hm : X.mg "enumerate" = none) (ha : PA X [e] ta) (hs : starEach [e] X.env = [(false, eval e X.env)] := by rfl) :
    PI X (.Tuple elts kk tpos) (.Call (.Name "enumerate" p) [e] [] pos) (iEnum X.K ta) := by
  intro pins s σ H R I h
  refine Call_ (ld_blt I hg hm boot_enumerate (PyProof.Rows.callWith_type1 (thn (ha pos pins s σ H _ I h) fun us s1 ⟨vs, H1, I1, r1, q1⟩ => ?_) hs rfl))
  obtain ⟨a, xs, ex, hq, q⟩ := q1
  subst ex
  cases r1 with
  | cons r rr =>
    cases rr
    cases r
    obtain ⟨its, rv, p', hz⟩ := I1.list hq
    refine call_enumerate_list p'.isList fun h' he hit hsz hk => wpAny_pyIter_enum he ?_
    have I2 : Inv X pins σ H1 { s1 with heap := h' } := I1.kept (t' := s1.toks) hk
    refine ⟨s1.heap.objs.size + 1, [s1.heap.objs.size + 1, s1.heap.objs.size], _, _, H1, rfl, I2, turn_enum a (s1.heap.objs.size + 1) s1.heap.objs.size, ⟨⟨.none, he⟩, hit, Nat.succ_ne_self _⟩, fun b hb => ?_, q⟩
    have e' : b = s1.heap.objs.size + 1 ∨ b = s1.heap.objs.size := by simpa using hb
    have hle : s1.heap.objs.size ≤ b := by
      rcases e' with z | z
      · rw [z]; exact Nat.le_add_right _ _
      · rw [z]; exact Nat.le_refl _
    exact I1.fpOk hle (I1.hok.fresh hle)
/-! ### zip(list, list) -/
theorem boot_zip5 : bootBuiltins "zip" = some (.type "zip") := by decide +kernel
/-- the lists at a and b as they stand at each turn, the items in new pairs -/
def Itz (K : PySem.W.Frag) (a b : Addr) : It :=
  ⟨fun i H => ∃ (xs ys : List V) (x y : V), SqL K H a xs ∧ SqL K H b ys ∧ xs[i]? = some x ∧ ys[i]? = some y,
    fun i H v H' => ∃ T x y, v = .ref T ∧ H T = none ∧ H' = upd H T (.tup [x, y]) ∧ (∀ xs, SqL K H a xs → xs[i]? = some x) ∧ ∀ ys, SqL K H b ys → ys[i]? = some y,
    fun i H => ∃ xs ys : List V, SqL K H a xs ∧ SqL K H b ys ∧ (xs.length ≤ i ∨ ys.length ≤ i)⟩
theorem turn_zip {P : Program} {w : World} {K : PySem.W.Frag} {elts : List Expr} {kk : Nat} {tpos : Pos} {a b z TI TO i1 i2 : Addr} (D : ZipApart z TI TO i1 i2 a b) :
    Turn P w K (.Tuple elts kk tpos) (Itz K a b) [z, TI, TO, i1, i2] z (fun i h => IsZip h z TI TO .none ∧ IsPair h TI (.ref i1) (.ref i2) ∧ (∃ x y, IsPair h TO x y) ∧ h.IsListIter i1 a i ∧ h.IsListIter i2 b i) where
  mem := by simp
  obj := fun i h st c hc => by
    obtain ⟨hz, hTI, ⟨x, y, hTO⟩, ⟨o1, e1, _, d1⟩, ⟨o2, e2, _, d2⟩⟩ := st
    have e' : c = z ∨ c = TI ∨ c = TO ∨ c = i1 ∨ c = i2 := by simpa using hc
    rcases e' with q | q | q | q | q
    · rw [q]; exact ⟨_, hz, fun v q => nomatch q⟩
    · rw [q]; exact ⟨_, hTI, fun v q => nomatch q⟩
    · rw [q]; exact ⟨_, hTO, fun v q => nomatch q⟩
    · rw [q]; exact ⟨o1, e1, fun v q => by rw [d1] at q; cases q⟩
    · rw [q]; exact ⟨o2, e2, fun v q => by rw [d2] at q; cases q⟩
  keep := fun i h h' st k => by
    obtain ⟨hz, hTI, ⟨x, y, hTO⟩, h1, h2⟩ := st
    exact ⟨k z (by simp) _ hz, k TI (by simp) _ hTI, ⟨x, y, k TO (by simp) _ hTO⟩, h1.at fun o q => k i1 (by simp) o q, h2.at fun o q => k i2 (by simp) o q⟩
  item := by
    intro X hP hw hK hc i pins s σ H E I hf st hg
    subst hP hw hK
    obtain ⟨hz, hTI, ⟨x0, y0, hTO⟩, h1, h2⟩ := st
    obtain ⟨xs, ys, x, y, hqx, hqy, hx, hy⟩ := hg
    obtain ⟨its, rv, p, _⟩ := I.list hqx
    obtain ⟨its2, rv2, p2, _⟩ := I.list hqy
    obtain ⟨u, hu, ru⟩ := rv.get hx
    obtain ⟨u2, hu2, ru2⟩ := rv2.get hy
    have hzl : z < s.heap.objs.size := Heap.lt_size hz
    refine wpAny_pyNext_zip_item D hz hTI hTO h1 h2 p.isList p2.isList (x := u) (y := u2) (by simpa using hu) (by simpa using hu2) fun h' z' TO' h1' h2' hT hsz hk => ?_
    refine ⟨_, rfl, wpAny_letOwnedTupleGo_zip (s := { s with heap := h' }) z' fun h'' z'' sb => ?_⟩
    have hT2 : h''.get? s.heap.objs.size = some { cls := .type "tuple", data := .seq #[u, u2] } := (sb.2 _ (Nat.ne_of_gt hzl)).trans hT
    have new : ObjOk X.prog X.w (upd H s.heap.objs.size (.tup [x, y])) h'' s.heap.objs.size (.tup [x, y]) :=
      ⟨by show 2 ≤ sizeLine; decide, [u, u2], .cons ru (.cons ru2 .nil), ⟨_, hT2, rfl, _, rfl⟩⟩
    have I1 : Inv X pins σ (upd H s.heap.objs.size (.tup [x, y])) { s with heap := h'' } :=
      I.turnedNew (t' := s.toks) (ch := [z, TI, TO, i1, i2]) (fun c o hb q => (sb.2 c (fun q' => hb (by simp [q']))).trans (hk c o (fun q' => hb (by simp [q'])) (fun q' => hb (by simp [q'])) (fun q' => hb (by simp [q'])) (fun q' => hb (by simp [q'])) q)) hf (Nat.le_refl _) new
    refine ⟨.ref s.heap.objs.size, _, I1, rfl, ⟨_, x, y, rfl, I.hok.fresh (Nat.le_refl _), rfl, fun l hl => by rw [I.list_inj hl hqx]; exact hx, fun l hl => by rw [I.list_inj hl hqy]; exact hy⟩, ⟨z'', ?_, ⟨u, u2, ?_⟩, ?_, ?_⟩, fun c hcm => ?_⟩
    · exact (sb.2 _ D.TIz).trans (hk _ _ D.TIz D.TITO D.TIi1 D.TIi2 hTI)
    · exact (sb.2 _ D.TOz).trans TO'
    · exact h1'.at fun o q => (sb.2 _ D.i1z).trans q
    · exact h2'.at fun o q => (sb.2 _ D.i2z).trans q
    · have hlt : c < s.heap.objs.size := by
        have e' : c = z ∨ c = TI ∨ c = TO ∨ c = i1 ∨ c = i2 := by simpa using hcm
        rcases e' with q | q | q | q | q
        · rw [q]; exact hzl
        · rw [q]; exact Heap.lt_size hTI
        · rw [q]; exact Heap.lt_size hTO
        · rw [q]; obtain ⟨_, e1, _⟩ := h1; exact Heap.lt_size e1
        · rw [q]; obtain ⟨_, e2, _⟩ := h2; exact Heap.lt_size e2
      rw [upd_ne (Nat.ne_of_lt hlt)]
      exact (hf c hcm).1
  done := by
    intro X hP hw hK hc i pins s σ H E I hf st hg
    subst hP hw hK
    obtain ⟨hz, hTI, ⟨x0, y0, hTO⟩, h1, h2⟩ := st
    obtain ⟨xs, ys, hqx, hqy, hend⟩ := hg
    obtain ⟨its, rv, p, _⟩ := I.list hqx
    obtain ⟨its2, rv2, p2, _⟩ := I.list hqy
    have l1 := rv.length
    have l2 := rv2.length
    have he : its.toArray[i]? = none ∨ its2.toArray[i]? = none := by
      rcases hend with q | q
      · exact .inl (by simp; omega)
      · exact .inr (by simp; omega)
    exact wpAny_pyNext_zip_end (I.ok.hd hc) D hz hTI hTO h1 h2 p.isList p2.isList he fun h' hk => ⟨rfl, I.turnedL (t' := s.toks) (ch := [z, TI, TO, i1, i2]) (fun c o hb q =>
      hk c o (fun q' => hb (by simp [q'])) (fun q' => hb (by simp [q'])) (fun q' => hb (by simp [q'])) (fun q' => hb (by simp [q'])) q) hf⟩
  self := fun A i s Q E st h => wpAny_pyIter_zip st.1 h
def iZip (K : PySem.W.Frag) (ta : TA) : TI := fun σ H R => ta σ H fun vs H1 => ∃ a b xs ys, vs = [.ref a, .ref b] ∧ SqL K H1 a xs ∧ SqL K H1 b ys ∧ R (Itz K a b) H1
theorem pi_zip {X : Cx} {e e2 : Expr} {ta : TA} {p pos tpos : Pos} {elts : List Expr} {kk : Nat} (hg : Gl X "zip") (hm : X.mg "zip" = none) (ha : PA X [e, e2] ta)
    (hs : starEach [e, e2] X.env = (false, eval e X.env) :: starEach [e2] X.env := by rfl) (hpl : (backTo pos (starEach [e2] X.env)).any (·.1) = false := by rfl) :
    PI X (.Tuple elts kk tpos) (.Call (.Name "zip" p) [e, e2] [] pos) (iZip X.K ta) := by
  intro pins s σ H R I h
  refine Call_ (ld_blt I hg hm boot_zip5 (PyProof.Rows.callWith_type1 (thn (ha pos pins s σ H _ I h) fun us s1 ⟨vs, H1, I1, r1, q1⟩ => ?_) hs hpl))
  obtain ⟨a, b, xs, ys, ex, hqx, hqy, q⟩ := q1
  subst ex
  cases r1 with
  | cons r rr =>
    cases rr with
    | cons r' rr =>
      cases rr
      cases r
      cases r'
      obtain ⟨its, rv, p1, _⟩ := I1.list hqx
      obtain ⟨its2, rv2, p2, _⟩ := I1.list hqy
      have la : a < s1.heap.objs.size := p1.lt
      have lb : b < s1.heap.objs.size := p2.lt
      refine call_zip_2 p1.isList p2.isList fun h' hz hTI hTO h1 h2 hsz hk => wpAny_pyIter_zip hz ?_
      have I2 : Inv X pins σ H1 { s1 with heap := h' } := I1.kept (t' := s1.toks) hk
      refine ⟨s1.heap.objs.size + 4, [s1.heap.objs.size + 4, s1.heap.objs.size + 2, s1.heap.objs.size + 3, s1.heap.objs.size, s1.heap.objs.size + 1], _, _, H1, rfl, I2, turn_zip (PySem.W.ktu_apart s1.heap.objs.size a b la lb), ⟨hz, hTI, ⟨_, _, hTO⟩, h1, h2⟩, fun c hcm => ?_, q⟩
      have e' : c = s1.heap.objs.size + 4 ∨ c = s1.heap.objs.size + 2 ∨ c = s1.heap.objs.size + 3 ∨ c = s1.heap.objs.size ∨ c = s1.heap.objs.size + 1 := by simpa using hcm
      have hle : s1.heap.objs.size ≤ c := by
        rcases e' with z | z | z | z | z
        · rw [z]; exact Nat.le_add_right _ _
        · rw [z]; exact Nat.le_add_right _ _
        · rw [z]; exact Nat.le_add_right _ _
        · rw [z]; exact Nat.le_refl _
        · rw [z]; exact Nat.le_add_right _ _
      exact I1.fpOk hle (I1.hok.fresh hle)
end L2

section 
namespace Bits
open PySem PyProof.Rows

theorem nat_and_mul_pow (k : Nat) : ∀ a b : Nat, a < 2 ^ k → a &&& (b * 2 ^ k) = 0 := by
  induction k with
  | zero =>
    intro a b h
    have h0 : a = 0 := by
      rw [Nat.pow_zero] at h
      omega
    subst h0
    simp
  | succ k ih =>
    intro a b h
    have hm : (b * 2 ^ (k + 1)) = (b * 2 ^ k) * 2 := by rw [Nat.pow_succ, Nat.mul_assoc]
    have hlt : a / 2 < 2 ^ k := by
      rw [Nat.pow_succ] at h
      generalize 2 ^ k = m at h ⊢
      omega
    have i := ih (a / 2) b hlt
    rw [hm]
    generalize b * 2 ^ k = B at i ⊢
    have e : (a &&& (B * 2)) / 2 = a / 2 &&& (B * 2) / 2 := Nat.and_div_two
    have e2 : (B * 2) / 2 = B := by omega
    have o := @Nat.and_mod_two_eq_one a (B * 2)
    rw [e2, i] at e
    omega

theorem natCast_mul_pow (m k : Nat) : (m : Int) * 2 ^ k = ((m * 2 ^ k : Nat) : Int) := by
  rw [two_pow_cast]
  first
    | exact (Int.natCast_mul _ _).symm
    | simp

/-- low bits a, high part b: (b << k) | a -/
theorem bitOr_join {a b : Int} {k : Nat} (h0 : 0 ≤ a) (h1 : a < 2 ^ k) (hb : 0 ≤ b) : Builtin.bitOr a (b * 2 ^ k) = a + b * 2 ^ k := by
  obtain ⟨n, rfl⟩ := Int.eq_ofNat_of_zero_le h0
  obtain ⟨m, rfl⟩ := Int.eq_ofNat_of_zero_le hb
  have hn : n < 2 ^ k := by
    rw [two_pow_cast] at h1
    omega
  have e : Builtin.bitAnd (n : Int) ((m * 2 ^ k : Nat) : Int) = 0 := by
    rw [bitAnd_pp (by omega) (by omega), Int.toNat_natCast, Int.toNat_natCast, nat_and_mul_pow k n m hn] <;> rfl
  rw [natCast_mul_pow, bitOr_and, e]
  omega
theorem bitOr_join' {a b : Int} {k : Nat} (h0 : 0 ≤ a) (h1 : a < 2 ^ k) (hb : 0 ≤ b) : Builtin.bitOr (b * 2 ^ k) a = a + b * 2 ^ k := by
  rw [bitOr_comm]
  exact bitOr_join h0 h1 hb

/-- x & ((1 << k) - 1) -/
theorem bitAnd_mask {x : Int} (k : Nat) (hx : 0 ≤ x) : Builtin.bitAnd x (2 ^ k - 1) = x % 2 ^ k := by
  obtain ⟨n, rfl⟩ := Int.eq_ofNat_of_zero_le hx
  have hp : 0 < 2 ^ k := Nat.two_pow_pos k
  rw [two_pow_cast]
  have e : ((2 ^ k : Nat) : Int) - 1 = ((2 ^ k - 1 : Nat) : Int) := by
    generalize (2 : Nat) ^ k = m at hp
    omega
  rw [e, bitAnd_pp (by omega) (by omega), Int.toNat_natCast, Int.toNat_natCast, Nat.and_two_pow_sub_one_eq_mod]
  first
    | rfl
    | exact Int.natCast_emod _ _
    | simp

/-- (x >> i) & 1 -/
theorem bit_at {x : Int} (i : Nat) : Builtin.bitAnd (x.fdiv (2 ^ i)) 1 = x / 2 ^ i % 2 := by
  have hp : (0 : Int) ≤ 2 ^ i := by
    rw [two_pow_cast]
    exact Int.natCast_nonneg _
  rw [Int.fdiv_eq_ediv_of_nonneg _ hp, bitAnd_m1]

theorem nat_xor_add_and (m : Nat) : ∀ n : Nat, (m ^^^ n) + 2 * (m &&& n) = m + n := by
  induction m using Nat.strongRecOn with
  | _ m ih =>
    intro n
    by_cases h0 : m = 0
    · subst h0
      simp
    · have ih' := ih (m / 2) (by omega) (n / 2)
      rw [← Nat.xor_div_two, ← Nat.and_div_two] at ih'
      have o1 := @Nat.xor_mod_two_eq_one m n
      have a1 := @Nat.and_mod_two_eq_one m n
      omega

theorem bitXor_pp {x y : Int} (hx : 0 ≤ x) (hy : 0 ≤ y) : Builtin.bitXor x y = ((x.toNat ^^^ y.toNat : Nat) : Int) := by
  have e := nat_xor_add_and x.toNat y.toNat
  rw [bitXor_and, bitAnd_pp hx hy]
  omega
theorem bitOr_pp {x y : Int} (hx : 0 ≤ x) (hy : 0 ≤ y) : Builtin.bitOr x y = ((x.toNat ||| y.toNat : Nat) : Int) := by
  have e := nat_or_add_and x.toNat y.toNat
  rw [bitOr_and, bitAnd_pp hx hy]
  omega
theorem bitXor_nonneg {x y : Int} (hx : 0 ≤ x) (hy : 0 ≤ y) : 0 ≤ Builtin.bitXor x y := by
  rw [bitXor_pp hx hy]
  omega
theorem bitOr_nonneg {x y : Int} (hx : 0 ≤ x) (hy : 0 ≤ y) : 0 ≤ Builtin.bitOr x y := by
  rw [bitOr_pp hx hy]
  omega

end Bits
end 

section 
namespace TL
open PySem PySem.Builtin PySem.Builtin.Str PySem.StrLaws

abbrev tl (x : Str) : List Nat := x.cps.toList
theorem len_tl (x : Str) : x.length = (tl x).length := by simp [tl, Str.length]
theorem ext_tl {x y : Str} (h : tl x = tl y) : x = y := Str.ext' (Array.toList_inj.mp h)
theorem tl_append (x y : Str) : tl (x ++ y) = tl x ++ tl y := by
  show (x ++ y).cps.toList = _
  rw [Str.cps_append, Array.toList_append]
theorem tl_mk (l : List Nat) : tl ⟨l.toArray⟩ = l := rfl
theorem mk_tl (x : Str) : (⟨(tl x).toArray⟩ : Str) = x := ext_tl rfl
theorem map_tl_inj : ∀ {l m : List Str}, l.map tl = m.map tl → l = m
  | [], [], _ => rfl
  | [], _ :: _, h => by simp at h
  | _ :: _, [], h => by simp at h
  | x :: l, y :: m, h => by
    rw [List.map_cons, List.map_cons] at h
    injection h with h1 h2
    rw [ext_tl h1, map_tl_inj h2]
theorem tl_ofString (s : String) : tl (Str.ofString s) = s.toList.map Char.toNat := PyProof.Rows.signs_ofString s

/-! ### the list functions -/
/-- S stands at the head of l -/
def pre (S l : List Nat) : Bool := l.take S.length == S
/-- l cut at each S from the left; k signs are still to be passed over -/
def spl (S : List Nat) : Nat → List Nat → List Nat → List (List Nat)
  | _, acc, [] => [acc]
  | 0, acc, c :: r => if pre S (c :: r) = true then acc :: spl S (S.length - 1) [] r else spl S 0 (acc ++ [c]) r
  | k + 1, acc, _ :: r => spl S k acc r
/-- what stands before the first S, and behind it -/
def par (S : List Nat) : List Nat → List Nat → Option (List Nat × List Nat)
  | _, [] => none
  | acc, c :: r => if pre S (c :: r) = true then some (acc, (c :: r).drop S.length) else par S (acc ++ [c]) r

theorem spl_nil (S : List Nat) (k : Nat) (acc : List Nat) : spl S k acc [] = [acc] := by cases k <;> rfl
theorem spl_hit {S acc r : List Nat} {c : Nat} (h : pre S (c :: r) = true) : spl S 0 acc (c :: r) = acc :: spl S (S.length - 1) [] r := by
  show (if pre S (c :: r) = true then acc :: spl S (S.length - 1) [] r else spl S 0 (acc ++ [c]) r) = _
  rw [if_pos h]
theorem spl_miss {S acc r : List Nat} {c : Nat} (h : pre S (c :: r) = false) : spl S 0 acc (c :: r) = spl S 0 (acc ++ [c]) r := by
  show (if pre S (c :: r) = true then acc :: spl S (S.length - 1) [] r else spl S 0 (acc ++ [c]) r) = _
  rw [if_neg (by rw [h]; exact Bool.false_ne_true)]
theorem spl_pass (S : List Nat) : ∀ (k : Nat) (acc l : List Nat), spl S k acc l = spl S 0 acc (l.drop k)
  | 0, _, _ => by rw [List.drop_zero]
  | k + 1, acc, [] => by rw [List.drop_nil, spl_nil, spl_nil]
  | k + 1, acc, c :: r => by
    show spl S k acc r = spl S 0 acc (r.drop k)
    exact spl_pass S k acc r
theorem par_hit {S acc r : List Nat} {c : Nat} (h : pre S (c :: r) = true) : par S acc (c :: r) = some (acc, (c :: r).drop S.length) := by
  show (if pre S (c :: r) = true then some (acc, (c :: r).drop S.length) else par S (acc ++ [c]) r) = _
  rw [if_pos h]
theorem par_miss {S acc r : List Nat} {c : Nat} (h : pre S (c :: r) = false) : par S acc (c :: r) = par S (acc ++ [c]) r := by
  show (if pre S (c :: r) = true then some (acc, (c :: r).drop S.length) else par S (acc ++ [c]) r) = _
  rw [if_neg (by rw [h]; exact Bool.false_ne_true)]

theorem pre_nil {S : List Nat} (hS : S ≠ []) : pre S [] = false := by
  cases S with
  | nil => exact absurd rfl hS
  | cons s S => rfl
theorem pre_of_head {s c : Nat} (S r : List Nat) (h : c ≠ s) : pre (s :: S) (c :: r) = false := by
  cases hp : pre (s :: S) (c :: r) with
  | false => rfl
  | true =>
    have e : (c :: r).take (s :: S).length = s :: S := eq_of_beq hp
    rw [List.length_cons, List.take_succ_cons] at e
    injection e with e1 e2
    exact absurd e1 h
theorem pre_self (S r : List Nat) : pre S (S ++ r) = true := by
  show ((S ++ r).take S.length == S) = true
  have e : (S ++ r).take S.length = S := List.take_left
  rw [e] <;> exact beq_self_eq_true S

theorem getElem_drop_cons {L : List Nat} {a : Nat} (h : a < L.length) : ∃ c, L.drop a = c :: L.drop (a + 1) := ⟨L[a], List.drop_eq_getElem_cons h⟩
theorem spl_run (S L : List Nat) : ∀ (m a : Nat) (acc : List Nat), a + m ≤ L.length → (∀ k, a ≤ k → k < a + m → pre S (L.drop k) = false) →
    spl S 0 acc (L.drop a) = spl S 0 (acc ++ (L.drop a).take m) (L.drop (a + m))
  | 0, a, acc, _, _ => by rw [List.take_zero, List.append_nil, Nat.add_zero]
  | m + 1, a, acc, h, hn => by
    have hlt : a < L.length := by omega
    obtain ⟨c, e⟩ := getElem_drop_cons hlt
    have h0 := hn a (Nat.le_refl _) (by omega)
    have ih := spl_run S L m (a + 1) (acc ++ [c]) (by omega) (fun k h1 h2 => hn k (by omega) (by omega))
    have e2 : a + 1 + m = a + (m + 1) := by omega
    rw [e2] at ih
    rw [e] at h0
    rw [e, spl_miss h0, ih, List.take_succ_cons, List.append_assoc] <;> rfl
theorem par_run (S L : List Nat) : ∀ (m a : Nat) (acc : List Nat), a + m ≤ L.length → (∀ k, a ≤ k → k < a + m → pre S (L.drop k) = false) →
    par S acc (L.drop a) = par S (acc ++ (L.drop a).take m) (L.drop (a + m))
  | 0, a, acc, _, _ => by rw [List.take_zero, List.append_nil, Nat.add_zero]
  | m + 1, a, acc, h, hn => by
    have hlt : a < L.length := by omega
    obtain ⟨c, e⟩ := getElem_drop_cons hlt
    have h0 := hn a (Nat.le_refl _) (by omega)
    have ih := par_run S L m (a + 1) (acc ++ [c]) (by omega) (fun k h1 h2 => hn k (by omega) (by omega))
    have e2 : a + 1 + m = a + (m + 1) := by omega
    rw [e2] at ih
    rw [e] at h0
    rw [e, par_miss h0, ih, List.take_succ_cons, List.append_assoc] <;> rfl
theorem drop_two (L : List Nat) (a b : Nat) : (L.drop a).drop b = L.drop (a + b) := by
  first
    | rw [List.drop_drop]
    | rw [List.drop_drop, Nat.add_comm]
theorem spl_at {S L : List Nat} (hS : S ≠ []) {c : Nat} {acc : List Nat} (h : pre S (L.drop c) = true) : spl S 0 acc (L.drop c) = acc :: spl S 0 [] (L.drop (c + S.length)) := by
  rw [← drop_two]
  cases e : L.drop c with
  | nil => rw [e, pre_nil hS] at h; cases h
  | cons d r =>
    rw [e] at h
    rw [spl_hit h, spl_pass]
    cases S with
    | nil => exact absurd rfl hS
    | cons s S => rfl
theorem par_at {S L : List Nat} (hS : S ≠ []) {c : Nat} {acc : List Nat} (h : pre S (L.drop c) = true) : par S acc (L.drop c) = some (acc, L.drop (c + S.length)) := by
  rw [← drop_two]
  cases e : L.drop c with
  | nil => rw [e, pre_nil hS] at h; cases h
  | cons d r =>
    rw [e] at h
    rw [par_hit h]

/-! ### the model's split and partition are these -/
theorem at_iff {x y : Str} (hy : tl y ≠ []) (i : Nat) : At x y x.length i ↔ pre (tl y) ((tl x).drop i) = true := by
  have hx := len_tl x
  have hl := len_tl y
  constructor
  · intro h
    have h2 := h.2
    rw [subAt_eq, hl] at h2
    exact h2
  · intro h
    have e : ((tl x).drop i).take (tl y).length = tl y := eq_of_beq h
    have e1 := congrArg List.length e
    rw [List.length_take, List.length_drop] at e1
    have e2 : 0 < (tl y).length := List.length_pos_iff.mpr hy
    refine ⟨by omega, ?_⟩
    rw [subAt_eq, hl]
    exact h
theorem no_at {x y : Str} (hy : tl y ≠ []) {i : Nat} (h : ¬ At x y x.length i) : pre (tl y) ((tl x).drop i) = false := by
  cases hp : pre (tl y) ((tl x).drop i) with
  | false => rfl
  | true => exact absurd ((at_iff hy i).mpr hp) h
theorem len1 {y : Str} (hy : tl y ≠ []) : 1 ≤ y.length := by
  have e2 : 0 < (tl y).length := List.length_pos_iff.mpr hy
  rw [len_tl y]
  exact e2
theorem tl_strSub (x : Str) (i j : Nat) : tl (strSub x i j) = ((tl x).drop i).take (j - i) := strSub_toList x i j
theorem tl_strSub_end (x : Str) (i : Nat) : tl (strSub x i x.length) = (tl x).drop i := by
  rw [tl_strSub, len_tl x]
  exact List.take_of_length_le (by rw [List.length_drop] <;> omega)

theorem parts_spl {x y : Str} (hy : tl y ≠ []) : ∀ (cuts : List Nat) (a f : Nat), a ≤ (tl x).length → ChainG x y x.length a cuts f → (∀ k, f ≤ k → ¬ At x y x.length k) →
    (partsFrom x y.length a cuts).map tl = spl (tl y) 0 [] ((tl x).drop a)
  | [], a, f, ha, h, hn => by
    have e : f = a := h
    subst e
    show [tl (strSub x f x.length)] = _
    have run := spl_run (tl y) (tl x) ((tl x).length - f) f [] (by omega) (fun k h1 _ => no_at hy (hn k h1))
    have e2 : f + ((tl x).length - f) = (tl x).length := by omega
    rw [e2, List.drop_length, spl_nil, List.nil_append, List.take_of_length_le (by rw [List.length_drop] <;> omega)] at run
    rw [run, tl_strSub_end]
  | c :: r, a, f, ha, h, hn => by
    obtain ⟨h1, h2, h3, h4⟩ := h
    have hc : c + y.length ≤ x.length := h2.1
    have hx := len_tl x
    have hl := len_tl y
    have ih := parts_spl hy r (c + y.length) f (by omega) h4 hn
    show tl (strSub x a c) :: (partsFrom x y.length (c + y.length) r).map tl = _
    have run := spl_run (tl y) (tl x) (c - a) a [] (by omega) (fun k k1 k2 => no_at hy (h3 k k1 (by omega)))
    have e2 : a + (c - a) = c := by omega
    rw [e2, List.nil_append, spl_at hy ((at_iff hy c).mp h2)] at run
    rw [run, ih, tl_strSub, hl]

/-- hk: by kind_ok where the separator is plain -/
theorem split_spl (x y : Str) (hy : tl y ≠ []) (hk : ¬ Builtin.Str.strKind x < Builtin.Str.strKind y) : (Txt.split x y).map tl = spl (tl y) 0 [] (tl x) := by
  obtain ⟨f, g, hn⟩ := occ_tight x y (len1 hy)
  have key := parts_spl hy _ 0 f (Nat.zero_le _) g hn
  rw [List.drop_zero] at key
  have none_case : occurrences x y 0 x.length (x.length + 1) = [] → [x].map tl = spl (tl y) 0 [] (tl x) := fun ho => by
    rw [ho] at key
    rw [← key]
    show [tl x] = [tl (strSub x 0 x.length)]
    rw [sub_whole]
  unfold Txt.split
  by_cases h1 : (decide (x.length < y.length) || decide (Builtin.Str.strKind x < Builtin.Str.strKind y)) = true
  · rw [if_pos h1]
    have hlt : x.length < y.length := by
      simp only [Bool.or_eq_true, decide_eq_true_eq] at h1
      rcases h1 with h | h
      · exact h
      · exact absurd h hk
    refine none_case ?_
    cases ho : occurrences x y 0 x.length (x.length + 1) with
    | nil => rfl
    | cons c r =>
      rw [ho] at g
      have hc : c + y.length ≤ x.length := g.2.1.1
      omega
  · rw [if_neg h1]
    by_cases h2 : (occurrences x y 0 x.length (x.length + 1)).isEmpty = true
    · rw [if_pos h2]
      exact none_case (List.isEmpty_iff.mp h2)
    · rw [if_neg h2, partsBetween_eq]
      exact key
theorem kind_ok {x y : Str} (h : y.cps.all (· < 256) = true) : ¬ Builtin.Str.strKind x < Builtin.Str.strKind y := by
  have e : Builtin.Str.strKind y = 1 := by unfold PySem.Builtin.Str.strKind; rw [if_pos h]
  rw [e]
  unfold PySem.Builtin.Str.strKind
  split
  · omega
  · split <;> omega

theorem partition_par (x y : Str) (hy : tl y ≠ []) :
    Txt.partition x y = (match par (tl y) [] (tl x) with | some (a, b) => (⟨a.toArray⟩, y, ⟨b.toArray⟩) | none => (x, Str.empty, Str.empty)) := by
  have hx := len_tl x
  have hl := len_tl y
  rcases PyProof.Rows.partition_whole x y with ⟨e, hn⟩ | ⟨i, e, hi, hn⟩
  · have run := par_run (tl y) (tl x) (tl x).length 0 [] (by omega) (fun k _ _ => no_at hy (hn k))
    rw [List.drop_zero, Nat.zero_add, List.drop_length] at run
    rw [e, run] <;> rfl
  · have hb : i + y.length ≤ x.length := hi.1
    have run := par_run (tl y) (tl x) i 0 [] (by omega) (fun k _ k2 => no_at hy (hn k (by omega)))
    rw [List.drop_zero, Nat.zero_add, List.nil_append, par_at hy ((at_iff hy i).mp hi)] at run
    rw [e, run]
    have e1 : strSub x 0 i = ⟨((tl x).take i).toArray⟩ := ext_tl (by rw [tl_strSub, List.drop_zero, Nat.sub_zero])
    have e2 : strSub x (i + y.length) x.length = ⟨((tl x).drop (i + (tl y).length)).toArray⟩ := ext_tl (by rw [tl_strSub_end, hl])
    rw [e1, e2] <;> rfl

/-! ### computing spl and par -/
/-- a part that the separator does not begin in, then the separator -/
theorem spl_part {S p rest acc : List Nat} (hS : S ≠ []) (h : ∀ i, i < p.length → pre S ((p ++ (S ++ rest)).drop i) = false) :
    spl S 0 acc (p ++ (S ++ rest)) = (acc ++ p) :: spl S 0 [] rest := by
  have run := spl_run S (p ++ (S ++ rest)) p.length 0 acc (by rw [List.length_append]; omega) (fun k _ k2 => h k (by omega))
  have ed : (p ++ (S ++ rest)).drop p.length = S ++ rest := List.drop_left
  rw [List.drop_zero, Nat.zero_add, List.take_left] at run
  rw [run, spl_at hS (by rw [ed]; exact pre_self S rest), ← drop_two, ed, List.drop_left]
theorem spl_last {S p acc : List Nat} (h : ∀ i, i < p.length → pre S (p.drop i) = false) : spl S 0 acc p = [acc ++ p] := by
  have run := spl_run S p p.length 0 acc (by omega) (fun k _ k2 => h k (by omega))
  rw [List.drop_zero, Nat.zero_add, List.drop_length, spl_nil, List.take_length] at run
  exact run
theorem par_part {S p rest acc : List Nat} (hS : S ≠ []) (h : ∀ i, i < p.length → pre S ((p ++ (S ++ rest)).drop i) = false) :
    par S acc (p ++ (S ++ rest)) = some (acc ++ p, rest) := by
  have run := par_run S (p ++ (S ++ rest)) p.length 0 acc (by rw [List.length_append]; omega) (fun k _ k2 => h k (by omega))
  have ed : (p ++ (S ++ rest)).drop p.length = S ++ rest := List.drop_left
  rw [List.drop_zero, Nat.zero_add, List.take_left] at run
  rw [run, par_at hS (by rw [ed]; exact pre_self S rest), ← drop_two, ed, List.drop_left]
theorem par_none {S p acc : List Nat} (h : ∀ i, i < p.length → pre S (p.drop i) = false) : par S acc p = none := by
  have run := par_run S p p.length 0 acc (by omega) (fun k _ k2 => h k (by omega))
  rw [List.drop_zero, Nat.zero_add, List.drop_length] at run
  exact run
/-- the separator's first sign is not in the part -/
theorem free_of {s : Nat} {S p q : List Nat} (h : s ∉ p) : ∀ i, i < p.length → pre (s :: S) ((p ++ q).drop i) = false := fun i hi => by
  have hlt : i < (p ++ q).length := by rw [List.length_append]; omega
  have e : (p ++ q).drop i = (p ++ q)[i] :: (p ++ q).drop (i + 1) := List.drop_eq_getElem_cons hlt
  rw [e]
  refine pre_of_head _ _ fun z => h ?_
  have e1 : (p ++ q)[i] = p[i] := List.getElem_append_left hi
  rw [← z, e1]
  exact List.getElem_mem hi
theorem spl_part1 {s : Nat} {S p rest acc : List Nat} (h : s ∉ p) : spl (s :: S) 0 acc (p ++ (s :: S ++ rest)) = (acc ++ p) :: spl (s :: S) 0 [] rest :=
  spl_part (by simp) (free_of h)
theorem spl_last1 {s : Nat} {S p acc : List Nat} (h : s ∉ p) : spl (s :: S) 0 acc p = [acc ++ p] := spl_last fun i hi => by
  have z := free_of (S := S) (q := []) h i hi
  rw [List.append_nil] at z
  exact z
theorem par_part1 {s : Nat} {S p rest acc : List Nat} (h : s ∉ p) : par (s :: S) acc (p ++ (s :: S ++ rest)) = some (acc ++ p, rest) := par_part (by simp) (free_of h)
theorem par_none1 {s : Nat} {S p acc : List Nat} (h : s ∉ p) : par (s :: S) acc p = none := par_none fun i hi => by
  have z := free_of (S := S) (q := []) h i hi
  rw [List.append_nil] at z
  exact z

/-- joined lists -/
def joinL (S : List Nat) : List (List Nat) → List Nat
  | [] => []
  | [p] => p
  | p :: q :: r => p ++ (S ++ joinL S (q :: r))
theorem tl_join (y : Str) : ∀ parts : List Str, tl (Str.join y parts) = joinL (tl y) (parts.map tl)
  | [] => rfl
  | [_] => rfl
  | x :: z :: r => by
    show tl (x ++ y ++ Str.join y (z :: r)) = tl x ++ (tl y ++ joinL (tl y) ((z :: r).map tl))
    rw [tl_append, tl_append, tl_join y (z :: r), List.append_assoc]
theorem spl_join {s : Nat} {S : List Nat} : ∀ {parts : List (List Nat)}, parts ≠ [] → (∀ p ∈ parts, s ∉ p) → spl (s :: S) 0 [] (joinL (s :: S) parts) = parts
  | [], h, _ => absurd rfl h
  | [p], _, hp => by
    show spl (s :: S) 0 [] p = [p]
    rw [spl_last1 (hp p (List.mem_singleton.mpr rfl)), List.nil_append]
  | p :: q :: r, _, hp => by
    show spl (s :: S) 0 [] (p ++ (s :: S ++ joinL (s :: S) (q :: r))) = p :: q :: r
    rw [spl_part1 (hp p (List.mem_cons_self ..)), List.nil_append, spl_join (by simp) fun z hz => hp z (List.mem_cons_of_mem _ hz)]
theorem join_eq (y : Str) (parts : List Str) : Txt.join y parts = Str.join y parts := glued_eq_join y parts
/-- THE READ-BACK: a joined text, split -/
theorem split_join {y : Str} {s : Nat} {S : List Nat} (ey : tl y = s :: S) (hk : y.cps.all (· < 256) = true) {parts : List Str} (hne : parts ≠ []) (hp : ∀ p ∈ parts, s ∉ tl p) :
    Txt.split (Txt.join y parts) y = parts := by
  refine map_tl_inj ?_
  rw [split_spl _ y (by rw [ey]; simp) (kind_ok hk), join_eq, tl_join, ey]
  refine spl_join (fun e => hne (List.map_eq_nil_iff.mp e)) fun p h => ?_
  obtain ⟨z, hz, rfl⟩ := List.mem_map.mp h
  exact hp z hz
/-- a text cut at its first separator -/
theorem partition_app {y : Str} {s : Nat} {S : List Nat} (ey : tl y = s :: S) {a b : Str} (h : s ∉ tl a) : Txt.partition (a ++ y ++ b) y = (a, y, b) := by
  rw [partition_par _ y (by rw [ey]; simp), tl_append, tl_append, List.append_assoc, ey, par_part1 h]
  show ((⟨([] ++ tl a).toArray⟩ : Str), y, (⟨(tl b).toArray⟩ : Str)) = _
  rw [List.nil_append, mk_tl, mk_tl]
theorem partition_none {y : Str} {s : Nat} {S : List Nat} (ey : tl y = s :: S) {a : Str} (h : s ∉ tl a) : Txt.partition a y = (a, Str.empty, Str.empty) := by
  rw [partition_par _ y (by rw [ey]; simp), ey, par_none1 h]

/-! ### digits -/
/-- the signs of a number -/
def numL (n : Nat) : List Nat := (Nat.toDigits 10 n).map Char.toNat
theorem tl_num (n : Nat) : tl (Str.ofString (toString ((n : Nat) : Int))) = numL n := PySem.W.KIN.signs_num n
theorem digitChar_nat : ∀ d : Nat, d < 10 → (Nat.digitChar d).toNat = 48 + d := by decide
theorem numL_lt {n : Nat} (h : n < 10) : numL n = [48 + n] := by
  unfold numL
  rw [Nat.toDigits_of_lt_base h]
  show [(Nat.digitChar n).toNat] = _
  rw [digitChar_nat n h]
theorem numL_step {n : Nat} (h : 10 ≤ n) : numL n = numL (n / 10) ++ [48 + n % 10] := by
  have hm : n % 10 < 10 := Nat.mod_lt n (by decide)
  have t : Nat.toDigits 10 (n / 10) ++ Nat.toDigits 10 (n % 10) = Nat.toDigits 10 (10 * (n / 10) + n % 10) := Nat.toDigits_append_toDigits (by decide) (by omega) hm
  rw [Nat.div_add_mod] at t
  show (Nat.toDigits 10 n).map Char.toNat = _
  rw [← t, List.map_append, Nat.toDigits_of_lt_base hm]
  show (Nat.toDigits 10 (n / 10)).map Char.toNat ++ [(Nat.digitChar (n % 10)).toNat] = _
  rw [digitChar_nat _ hm] <;> rfl
theorem numL_digits (n : Nat) : NumText.AllDigits (numL n) := by
  induction n using Nat.strongRecOn with
  | _ n ih =>
    by_cases h : n < 10
    · rw [numL_lt h]
      intro c hc
      rw [List.mem_singleton.mp hc]
      omega
    · rw [numL_step (by omega)]
      intro c hc
      rcases List.mem_append.mp hc with hc | hc
      · exact ih (n / 10) (by omega) c hc
      · have hm : n % 10 < 10 := Nat.mod_lt n (by decide)
        rw [List.mem_singleton.mp hc]
        omega
theorem numL_ne (n : Nat) : numL n ≠ [] := by
  by_cases h : n < 10
  · rw [numL_lt h]
    simp
  · rw [numL_step (by omega)]
    simp
theorem numL_free {n s : Nat} (h : s < 48 ∨ 57 < s) : s ∉ numL n := fun hm => by
  have r := numL_digits n s hm
  omega
theorem numL_val (n : Nat) : NumText.digitsVal (numL n) = n := PySem.W.KIN.val_back n
theorem numL_inj {m n : Nat} (h : numL m = numL n) : m = n := by
  have e := congrArg NumText.digitsVal h
  rw [numL_val, numL_val] at e
  exact e
theorem numL_len {n k : Nat} (hk : 0 < k) (h : n < 10 ^ k) : (numL n).length ≤ k := by
  have z := PyProof.Rows.toString_length_le (v := (n : Int)) (by omega) hk (by
    have e : ((10 : Int) ^ k) = ((10 ^ k : Nat) : Int) := by
      first
        | exact (Int.natCast_pow 10 k).symm
        | simp
    rw [e]
    first | exact Int.ofNat_lt.mpr h | omega)
  rw [len_tl, tl_num] at z
  exact z
/-- int(str(n)) -/
theorem int_num {n : Nat} (h : (numL n).length ≤ 4300) : intText? (Str.ofString (toString ((n : Nat) : Int))) = some (n : Int) := by
  have e := intText_digits (x := Str.ofString (toString ((n : Nat) : Int))) (by rw [show (Str.ofString (toString ((n : Nat) : Int))).cps.toList = numL n from tl_num n]; exact numL_digits n)
    (by rw [show (Str.ofString (toString ((n : Nat) : Int))).cps.toList = numL n from tl_num n]; exact numL_ne n) (by rw [len_tl, tl_num]; exact h)
  rw [show (Str.ofString (toString ((n : Nat) : Int))).cps.toList = numL n from tl_num n, numL_val] at e
  exact e
/-- a program's own loop over digits: total = total * 10 + (ord(sign) - ord("0")) -/
theorem fold_digits : ∀ (l : List Nat) (a : Nat), NumText.AllDigits l → l.foldl (fun (t : Int) (c : Nat) => t * 10 + ((c : Int) - 48)) (a : Int) = ((l.foldl (fun acc c => acc * 10 + (c - 48)) a : Nat) : Int)
  | [], _, _ => rfl
  | c :: r, a, h => by
    have hc := h.head
    rw [List.foldl_cons, List.foldl_cons, ← fold_digits r _ h.tail]
    have e : (a : Int) * 10 + ((c : Int) - 48) = ((a * 10 + (c - 48) : Nat) : Int) := by omega
    rw [e]
theorem fold_num (n : Nat) : (numL n).foldl (fun (t : Int) (c : Nat) => t * 10 + ((c : Int) - 48)) 0 = (n : Int) := by
  have e := fold_digits (numL n) 0 (numL_digits n)
  have v := numL_val n
  unfold NumText.digitsVal at v
  rw [v] at e
  exact e

/-! ### words: x.split() -/
def wstep (st : List (List Nat) × List Nat) (c : Nat) : List (List Nat) × List Nat :=
  if Unicode.isSpace c = true then (if st.2 = [] then st else (st.1 ++ [st.2], [])) else (st.1, st.2 ++ [c])
def wfin (st : List (List Nat) × List Nat) : List (List Nat) := if st.2 = [] then st.1 else st.1 ++ [st.2]
theorem len0_tl (x : Str) : x.length = 0 ↔ tl x = [] := by
  rw [len_tl]
  exact List.length_eq_zero_iff
theorem step_tl (ws : List Str) (u : Str) (c : Nat) : ((KWd.step (ws, u) c).1.map tl, tl (KWd.step (ws, u) c).2) = wstep (ws.map tl, tl u) c := by
  by_cases hc : Unicode.isSpace c = true
  · by_cases hu : u.length = 0
    · have a : KWd.step (ws, u) c = (ws, u) := (if_pos hc).trans (if_pos hu)
      have b : wstep (ws.map tl, tl u) c = (ws.map tl, tl u) := (if_pos hc).trans (if_pos ((len0_tl u).mp hu))
      rw [a, b] <;> rfl
    · have a : KWd.step (ws, u) c = (ws ++ [u], Str.empty) := (if_pos hc).trans (if_neg hu)
      have b : wstep (ws.map tl, tl u) c = (ws.map tl ++ [tl u], []) := (if_pos hc).trans (if_neg fun z => hu ((len0_tl u).mpr z))
      rw [a, b]
      show ((ws ++ [u]).map tl, ([] : List Nat)) = _
      rw [List.map_append] <;> rfl
  · have a : KWd.step (ws, u) c = (ws, u ++ ⟨#[c]⟩) := if_neg hc
    have b : wstep (ws.map tl, tl u) c = (ws.map tl, tl u ++ [c]) := if_neg hc
    rw [a, b]
    show (ws.map tl, tl (u ++ ⟨#[c]⟩)) = _
    rw [tl_append] <;> rfl
theorem scan_tl : ∀ (l : List Nat) (st : KWd.St), ((l.foldl KWd.step st).1.map tl, tl (l.foldl KWd.step st).2) = l.foldl wstep (st.1.map tl, tl st.2)
  | [], _ => rfl
  | c :: r, (ws, u) => by
    show ((r.foldl KWd.step (KWd.step (ws, u) c)).1.map tl, tl (r.foldl KWd.step (KWd.step (ws, u) c)).2) = r.foldl wstep (wstep (ws.map tl, tl u) c)
    exact (scan_tl r (KWd.step (ws, u) c)).trans (congrArg (fun z => r.foldl wstep z) (step_tl ws u c))
theorem fin_tl : ∀ q : KWd.St, (KWd.fin q).map tl = wfin (q.1.map tl, tl q.2)
  | (ws, u) => by
    show (if u.length = 0 then ws else ws ++ [u]).map tl = (if tl u = [] then ws.map tl else ws.map tl ++ [tl u])
    by_cases hu : u.length = 0
    · rw [if_pos hu, if_pos ((len0_tl u).mp hu)]
    · rw [if_neg hu, if_neg (fun z => hu ((len0_tl u).mpr z)), List.map_append] <;> rfl
theorem words_tl (x : Str) : (Txt.words x).map tl = wfin ((tl x).foldl wstep ([], [])) := by
  rw [KWd.words_scan]
  exact (fin_tl (KWd.scan x)).trans (congrArg wfin (scan_tl (tl x) ([], Str.empty)))
/-- a run of signs that are no blanks -/
theorem wfold_word : ∀ (p : List Nat) (ws : List (List Nat)) (u : List Nat), (∀ c ∈ p, Unicode.isSpace c = false) → p.foldl wstep (ws, u) = (ws, u ++ p)
  | [], ws, u, _ => by rw [List.append_nil] <;> rfl
  | c :: r, ws, u, h => by
    have hc := h c (List.mem_cons_self ..)
    rw [List.foldl_cons]
    have e : wstep (ws, u) c = (ws, u ++ [c]) := if_neg (by rw [hc]; exact Bool.false_ne_true)
    rw [e, wfold_word r ws (u ++ [c]) fun d hd => h d (List.mem_cons_of_mem _ hd), List.append_assoc] <;> rfl
theorem isSpace_plain {c : Nat} (h1 : 33 ≤ c) (h2 : c ≤ 126) : Unicode.isSpace c = false := PySem.W.KWk.nosp h1 h2
/-- words joined by one blank -/
theorem wfold_join : ∀ (ps : List (List Nat)) (ws : List (List Nat)), ps ≠ [] → (∀ p ∈ ps, p ≠ [] ∧ ∀ c ∈ p, Unicode.isSpace c = false) → wfin ((joinL [32] ps).foldl wstep (ws, [])) = ws ++ ps
  | [], _, h, _ => absurd rfl h
  | [p], ws, _, h => by
    obtain ⟨h1, h2⟩ := h p (List.mem_singleton.mpr rfl)
    show wfin (p.foldl wstep (ws, [])) = _
    rw [wfold_word p ws [] h2, List.nil_append]
    exact if_neg h1
  | p :: q :: r, ws, _, h => by
    obtain ⟨h1, h2⟩ := h p (List.mem_cons_self ..)
    show wfin ((p ++ ([32] ++ joinL [32] (q :: r))).foldl wstep (ws, [])) = _
    rw [List.foldl_append, wfold_word p ws [] h2, List.nil_append, List.foldl_append]
    have e : [32].foldl wstep (ws, p) = (ws ++ [p], []) := by
      have hs : Unicode.isSpace 32 = true := by decide +kernel
      have a : wstep (ws, p) 32 = (if p = [] then (ws, p) else (ws ++ [p], [])) := if_pos hs
      exact a.trans (if_neg h1)
    rw [e, wfold_join (q :: r) (ws ++ [p]) (by simp) fun z hz => h z (List.mem_cons_of_mem _ hz), List.append_assoc] <;> rfl
end TL
end 

namespace L2
open PySem PySem.Spec PyProof.Rows

theorem notLong {n : Nat} (h : n ≤ 16777216) : Builtin.Str.tooLong n = false := by
  have e : (2 : Nat) ^ 24 = 16777216 := by decide
  unfold Builtin.Str.tooLong sizeLine
  exact decide_eq_false (by omega)

/-- a list of texts, of numbered texts -/
theorem vals_strs : ∀ l : List (Str × Tok), Vals ((l.map (·.1)).map V.str) (strValues l)
  | [] => .nil
  | p :: r => .cons ⟨p.2, rfl⟩ (vals_strs r)
theorem strs_of_vals : ∀ {ys : List Str} {us : List Value}, Vals (ys.map V.str) us → StrsAre us ys
  | [], _, .nil => .nil
  | y :: ys, _, .cons r t => by
    obtain ⟨k, rfl⟩ := r
    exact .cons y k (strs_of_vals t)

/-- a new list of texts, tracked -/
def rNewStrs (ys : List Str) : Hp → VK → Prop := fun H Q => ∀ p, H p = none → Q (.ref p) (upd H p (.lst (ys.map V.str)))

section
variable {X : Cx} {pins : List (Addr × Obj)} {σ : St} {H : Hp} {s : Shared} {Q : VK}
theorem laid_strs {l : List (Str × Tok)} {ys : List Str} {k : Nat} (I : Inv X pins σ H s) (e : l.map (·.1) = ys) (hz : ys.length ≤ sizeLine) (h : rNewStrs ys H Q) :
    EP X pins σ Q (.ref s.heap.objs.size) { s with toks := k, heap := s.heap.push { cls := .type "list", data := .seq (strValues l).toArray } } := by
  have hp := I.hok.fresh (Nat.le_refl _)
  refine ⟨.ref s.heap.objs.size, upd H s.heap.objs.size (.lst (ys.map V.str)), I.laid (fun b u q => Heap.get?_push_of_some _ q) (Nat.le_refl _) ⟨by rw [List.length_map]; exact hz, strValues l, _, ?_, Heap.get?_push_size _ rfl⟩, rfl, h _ hp⟩
  rw [← e]
  exact vals_strs l
theorem laid_parts {x y z : Str} {t u v : Tok} {k : Nat} (I : Inv X pins σ H s) (h : ∀ p, H p = none → Q (.ref p) (upd H p (.tup [.str x, .str y, .str z]))) :
    EP X pins σ Q (.ref s.heap.objs.size) { s with toks := k, heap := s.heap.push { cls := .type "tuple", data := .seq [Value.str x t, .str y u, .str z v].toArray } } := by
  have hp := I.hok.fresh (Nat.le_refl _)
  exact ⟨.ref s.heap.objs.size, upd H s.heap.objs.size (.tup [.str x, .str y, .str z]), I.laid (fun b u q => Heap.get?_push_of_some _ q) (Nat.le_refl _)
    ⟨by show 3 ≤ sizeLine; decide, [Value.str x t, .str y u, .str z v], .cons ⟨t, rfl⟩ (.cons ⟨u, rfl⟩ (.cons ⟨v, rfl⟩ .nil)), _, Heap.get?_push_size _ rfl, rfl, _, rfl⟩, rfl, h _ hp⟩
end

section
variable {X : Cx}

/-- x.split(sep) -/
theorem mt_split : MtR X "str.split" (fun x xs H Q => ∃ a b, x = .str a ∧ xs = [.str b] ∧ (b.length == 0) = false ∧ a.length + 2 ≤ sizeLine ∧ rNewStrs (Txt.split a b) H Q) := by
  intro pins s σ H x xs v us Q I rx rs h
  obtain ⟨a, b, rfl, rfl, hb, hz, h⟩ := h
  obtain ⟨t, rfl⟩ := rx
  cases rs with
  | cons r1 rs =>
    cases rs
    obtain ⟨u, rfl⟩ := r1
    have hl : (Txt.split a b).length ≤ sizeLine := Nat.le_trans (PyProof.Rows.split_le a b) hz
    have hn : (Builtin.Str.partsBetween a (Builtin.Str.occurrences a b 0 a.length (a.length + 1)) b.length).length ≤ sizeLine := by
      have e1 := StrLaws.occ_length_le a b 0 a.length (a.length + 1)
      rw [length_partsBetween]; omega
    cases h1 : (decide (a.length < b.length) || decide (Builtin.Str.strKind a < Builtin.Str.strKind b))
    · cases hf : (Builtin.Str.occurrences a b 0 a.length (a.length + 1)).isEmpty
      · refine call_meets F.slot_str_split (typeIs_str _ _ _) F.entry_str_split (F.args_str_split_2 _ _) (meets_str_split_sep a b t u h1 hb hf (by omega) hn) ?_
        show EP X pins σ Q (.ref s.heap.objs.size) { s with toks := _, heap := s.heap.push { cls := .type "list", data := .seq (strsFrom s.toks (Builtin.Str.partsBetween a (Builtin.Str.occurrences a b 0 a.length (a.length + 1)) b.length)).toArray } }
        rw [strsFrom_eq]
        exact laid_strs (ys := Txt.split a b) I ((numbered_texts _ _).trans ((if_neg (ne_true_of_eq_false h1)).trans (if_neg (ne_true_of_eq_false hf))).symm) hl h
      · refine call_meets F.slot_str_split (typeIs_str _ _ _) F.entry_str_split (F.args_str_split_2 _ _) (meets_str_split_not_found a b t u h1 hb hf) ?_
        exact laid_strs (l := [(a, t)]) (ys := Txt.split a b) (k := s.toks) I ((if_neg (ne_true_of_eq_false h1)).trans (if_pos hf)).symm hl h
    · refine call_meets F.slot_str_split (typeIs_str _ _ _) F.entry_str_split (F.args_str_split_2 _ _) (meets_str_split_cannot_occur a b t u h1) ?_
      exact laid_strs (l := [(a, t)]) (ys := Txt.split a b) (k := s.toks) I (if_pos h1).symm hl h

theorem words_le (x : Str) : (Txt.words x).length ≤ x.length + 1 := by
  have e1 := StrLaws.words_weight x
  omega
/-- x.split() -/
theorem mt_words : MtR X "str.split" (fun x xs H Q => ∃ a, x = .str a ∧ xs = [] ∧ a.length + 2 ≤ sizeLine ∧ rNewStrs (Txt.words a) H Q) := by
  intro pins s σ H x xs v us Q I rx rs h
  obtain ⟨a, rfl, rfl, hz, h⟩ := h
  obtain ⟨t, rfl⟩ := rx
  cases rs
  have hl : (Txt.words a).length ≤ sizeLine := Nat.le_trans (words_le a) (by omega)
  have hn : (Builtin.Str.spaceWords a (a.length + 1)).length ≤ sizeLine := by
    have e1 := (StrLaws.sw_weight a).1
    have e2 := StrLaws.len_le_wsum (Builtin.Str.spaceWords a (a.length + 1))
    omega
  refine call_meets F.slot_str_split (typeIs_str _ _ _) F.entry_str_split (F.args_str_split_1 _) (meets_str_split_space a t (by omega) hn) ?_
  cases hw : Builtin.Str.spaceWords a (a.length + 1) == [(0, a.length)]
  · simp only [Bool.false_eq_true, if_false]
    rw [strsFrom_eq]
    exact laid_strs (ys := Txt.words a) I ((numbered_texts _ _).trans (if_neg (ne_true_of_eq_false hw)).symm) hl h
  · simp only [if_true]
    exact laid_strs (l := [(a, t)]) (ys := Txt.words a) (k := s.toks) I (if_pos hw).symm hl h

/-- x.partition(sep) -/
theorem mt_partition : MtR X "str.partition" (fun x xs H Q => ∃ a b, x = .str a ∧ xs = [.str b] ∧ (b.length == 0) = false ∧ a.length ≤ sizeLine ∧
    ∀ p, H p = none → Q (.ref p) (upd H p (.tup [.str (Txt.partition a b).1, .str (Txt.partition a b).2.1, .str (Txt.partition a b).2.2]))) := by
  intro pins s σ H x xs v us Q I rx rs h
  obtain ⟨a, b, rfl, rfl, hb, hz, h⟩ := h
  obtain ⟨t, rfl⟩ := rx
  cases rs with
  | cons r1 rs =>
    cases rs
    obtain ⟨u, rfl⟩ := r1
    refine call_meets F.slot_str_partition (typeIs_str _ _ _) F.entry_str_partition (F.args_str_partition_2 _ _) (meets_str_partition a b t u hb hz) ?_
    unfold Txt.partition at h
    revert h
    cases Builtin.Str.occurrences a b 0 a.length 1 with
    | nil => intro h; exact laid_parts I h
    | cons i r => intro h; exact laid_parts I h

/-- sep.join(a list | a tuple of texts) -/
theorem mt_join : MtR X "str.join" (fun x xs H Q => ∃ a p, ∃ ys : List Str, x = .str a ∧ xs = [.ref p] ∧ (SqL X.K H p (ys.map V.str) ∨ SqT X.K H p (ys.map V.str)) ∧
    (ys.map (·.length)).sum + ys.length * a.length ≤ 16777216 ∧ Q (.str (Txt.join a ys)) H) := by
  intro pins s σ H x xs v us Q I rx rs h
  obtain ⟨a, p, ys, rfl, rfl, hp, hz, h⟩ := h
  obtain ⟨t, rfl⟩ := rx
  cases rs with
  | cons r1 rs =>
    cases rs
    cases r1
    rcases hp with hp | hp
    · obtain ⟨its, r, ⟨o, n, ho, hc, _, hd⟩, _⟩ := I.list hp
      exact PyProof.Rows.join_list (items := its.toArray) ⟨o, ho, hc, n, hd⟩ (by rw [List.toList_toArray]; exact strs_of_vals r) hz fun t' k => ⟨.str _, H, I.tok k, ⟨t', rfl⟩, h⟩
    · obtain ⟨its, r, ht, _⟩ := I.tuple hp
      exact PyProof.Rows.join_tuple (items := its.toArray) ht (by rw [List.toList_toArray]; exact strs_of_vals r) hz fun t' k => ⟨.str _, H, I.tok k, ⟨t', rfl⟩, h⟩

/-! ### of a text alone -/
theorem mt0 {id : String} {C : Str → Prop} {g : Str → V} (rule : ∀ (a : Str) (t : Tok) (s : Shared) (Q : Value → Shared → Prop), C a → (∀ (u : Value) (k : Nat), RelV (g a) u → Q u { s with toks := k }) →
    wpAny (model X.prog X.w) X.A (call (.builtin id) [.str a t]) Q X.xe s) : MtR X id (fun x xs H Q => ∃ a, x = .str a ∧ xs = [] ∧ C a ∧ Q (g a) H) := by
  intro pins s σ H x xs v us Q I rx rs h
  obtain ⟨a, rfl, rfl, hc, h⟩ := h
  obtain ⟨t, rfl⟩ := rx
  cases rs
  exact rule a t s _ hc fun u k r => ⟨g a, H, I.tok k, r, h⟩
theorem mt_strip : MtR X "str.strip" (fun x xs H Q => ∃ a, x = .str a ∧ xs = [] ∧ a.length ≤ sizeLine ∧ Q (.str (Txt.strip a)) H) :=
  mt0 (C := fun a => a.length ≤ sizeLine) (g := fun a => .str (Txt.strip a)) fun _ _ _ _ hc h => PySem.SC.strip (fun t' k => h _ k ⟨t', rfl⟩) hc
theorem mt_lstrip : MtR X "str.lstrip" (fun x xs H Q => ∃ a, x = .str a ∧ xs = [] ∧ a.length ≤ sizeLine ∧ Q (.str (Txt.lstrip a)) H) :=
  mt0 (C := fun a => a.length ≤ sizeLine) (g := fun a => .str (Txt.lstrip a)) fun _ _ _ _ hc h => PySem.SC.lstrip (fun t' k => h _ k ⟨t', rfl⟩) hc
theorem mt_rstrip : MtR X "str.rstrip" (fun x xs H Q => ∃ a, x = .str a ∧ xs = [] ∧ a.length ≤ sizeLine ∧ Q (.str (Txt.rstrip a)) H) :=
  mt0 (C := fun a => a.length ≤ sizeLine) (g := fun a => .str (Txt.rstrip a)) fun _ _ _ _ hc h => PySem.SC.rstrip (fun t' k => h _ k ⟨t', rfl⟩) hc
theorem mt_lower : MtR X "str.lower" (fun x xs H Q => ∃ a, x = .str a ∧ xs = [] ∧ a.length ≤ 5592405 ∧ Q (.str (Txt.lower a)) H) :=
  mt0 (C := fun a => a.length ≤ 5592405) (g := fun a => .str (Txt.lower a)) fun a _ s _ hc h =>
    PySem.SC.lower (notLong (by have h1 : a.length ≤ 5592405 := hc; have := PyProof.Rows.len_lower a; omega)) (h _ (s.toks + 1) ⟨_, rfl⟩)
theorem mt_upper : MtR X "str.upper" (fun x xs H Q => ∃ a, x = .str a ∧ xs = [] ∧ a.length ≤ 5592405 ∧ Q (.str (Txt.upper a)) H) :=
  mt0 (C := fun a => a.length ≤ 5592405) (g := fun a => .str (Txt.upper a)) fun a _ s _ hc h =>
    PySem.SC.upper (notLong (by have h1 : a.length ≤ 5592405 := hc; have := PyProof.Rows.len_upper a; omega)) (h _ (s.toks + 1) ⟨_, rfl⟩)
theorem mt_isdigit : MtR X "str.isdigit" (fun x xs H Q => ∃ a, x = .str a ∧ xs = [] ∧ True ∧ Q (.bl (Txt.isdigit a)) H) :=
  mt0 (C := fun _ => True) (g := fun a => .bl (Txt.isdigit a)) fun _ _ s _ _ h => PySem.SC.isdigit (h _ s.toks rfl)
theorem mt_isalpha : MtR X "str.isalpha" (fun x xs H Q => ∃ a, x = .str a ∧ xs = [] ∧ True ∧ Q (.bl (Txt.isalpha a)) H) :=
  mt0 (C := fun _ => True) (g := fun a => .bl (Txt.isalpha a)) fun _ _ s _ _ h => PySem.SC.isalpha (h _ s.toks rfl)
theorem mt_isalnum : MtR X "str.isalnum" (fun x xs H Q => ∃ a, x = .str a ∧ xs = [] ∧ True ∧ Q (.bl (Txt.isalnum a)) H) :=
  mt0 (C := fun _ => True) (g := fun a => .bl (Txt.isalnum a)) fun _ _ s _ _ h => PySem.SC.isalnum (h _ s.toks rfl)
theorem mt_isspace : MtR X "str.isspace" (fun x xs H Q => ∃ a, x = .str a ∧ xs = [] ∧ True ∧ Q (.bl (Txt.isspace a)) H) :=
  mt0 (C := fun _ => True) (g := fun a => .bl (Txt.isspace a)) fun _ _ s _ _ h => PySem.SC.isspace (h _ s.toks rfl)

/-! ### of a text and a text -/
theorem mt1 {id : String} {g : Str → Str → V} (rule : ∀ (a b : Str) (t u : Tok) (s : Shared) (Q : Value → Shared → Prop), (∀ (v : Value) (k : Nat), RelV (g a b) v → Q v { s with toks := k }) →
    wpAny (model X.prog X.w) X.A (call (.builtin id) [.str a t, .str b u]) Q X.xe s) : MtR X id (fun x xs H Q => ∃ a b, x = .str a ∧ xs = [.str b] ∧ Q (g a b) H) := by
  intro pins s σ H x xs v us Q I rx rs h
  obtain ⟨a, b, rfl, rfl, h⟩ := h
  obtain ⟨t, rfl⟩ := rx
  cases rs with
  | cons r1 rs =>
    cases rs
    obtain ⟨u, rfl⟩ := r1
    exact rule a b t u s _ fun v k r => ⟨g a b, H, I.tok k, r, h⟩
theorem mt_startswith : MtR X "str.startswith" (fun x xs H Q => ∃ a b, x = .str a ∧ xs = [.str b] ∧ Q (.bl (Txt.startswith a b)) H) :=
  mt1 (g := fun a b => .bl (Txt.startswith a b)) fun _ _ _ _ s _ h => PySem.SC.startswith (h _ s.toks rfl)
theorem mt_endswith : MtR X "str.endswith" (fun x xs H Q => ∃ a b, x = .str a ∧ xs = [.str b] ∧ Q (.bl (Txt.endswith a b)) H) :=
  mt1 (g := fun a b => .bl (Txt.endswith a b)) fun _ _ _ _ s _ h => PySem.SC.endswith (h _ s.toks rfl)
theorem mt_find : MtR X "str.find" (fun x xs H Q => ∃ a b, x = .str a ∧ xs = [.str b] ∧ Q (.int (Txt.find a b)) H) :=
  mt1 (g := fun a b => .int (Txt.find a b)) fun _ _ _ _ s _ h => PySem.SC.find (h _ (s.toks + 1) ⟨_, rfl⟩)
theorem mt_count : MtR X "str.count" (fun x xs H Q => ∃ a b, x = .str a ∧ xs = [.str b] ∧ Q (.int (Txt.count a b)) H) :=
  mt1 (g := fun a b => .int (Txt.count a b)) fun _ _ _ _ s _ h => PySem.SC.count (h _ (s.toks + 1) ⟨_, rfl⟩)

/-- int(text) -/
theorem call_int_str : CallR X (.type "int") (fun xs H Q => ∃ a n, xs = [.str a] ∧ PySem.intText? a = some n ∧ a.length ≤ 640 ∧ Q (.int n) H) := by
  intro pins s σ H xs us Q I rs h
  obtain ⟨a, n, rfl, hn, hl, h⟩ := h
  cases rs with
  | cons r1 rs =>
    cases rs
    obtain ⟨t, rfl⟩ := r1
    exact PySem.W.KIN.call_text hn hl ⟨.int n, H, I.tok _, ⟨_, rfl⟩, h⟩
end

section
variable {X : Cx} {o e : Expr} {to te : TE}
def tM0 (r : V → List V → Hp → VK → Prop) (to : TE) : TE := fun σ H Q => to σ H fun x H1 => (∃ a, x = .str a) ∧ r x [] H1 Q
def tM1 (r : V → List V → Hp → VK → Prop) (to te : TE) : TE := fun σ H Q => to σ H fun x H1 => (∃ a, x = .str a) ∧ te σ H1 fun y H2 => r x [y] H2 Q
theorem pe_m0 {id : String} {name : Str} {apos pos : Pos} {r : V → List V → Hp → VK → Prop} (slot : Slot "str" name id) (ty : typeOf (.builtin id) = pure (.type "method_descriptor")) (rule : MtR X id r) (ho : PE X o to)
    (hbase : attributeBase o name X.env (eval o X.env) = eval o X.env := by rfl) (hline : (apos.endLine == pos.line) = true := by rfl) : PE X (.Call (.Attribute o name apos) [] [] pos) (tM0 r to) := by
  intro pins s σ H Q I h
  refine PySem.Call_method0 hbase hline (thn (ho pins s σ H _ I h) fun v s1 ⟨x, H1, I1, r1, q1⟩ => ?_)
  obtain ⟨⟨a, rfl⟩, q1⟩ := q1
  obtain ⟨t, rfl⟩ := _root_.id r1
  exact ⟨"str", _, F.plainAttrs_str, slot, ty, typeIs_str _ _ _, (fun _ e => nomatch e), Calls.callWith_builtin rfl (PySem.evalArgs_none (rule pins s1 σ H1 _ [] _ [] Q I1 r1 .nil q1))⟩
theorem pe_m1 {id : String} {name : Str} {apos pos : Pos} {r : V → List V → Hp → VK → Prop} (slot : Slot "str" name id) (ty : typeOf (.builtin id) = pure (.type "method_descriptor")) (rule : MtR X id r) (ho : PE X o to) (he : PE X e te)
    (hs : starEach [e] X.env = [(false, eval e X.env)] := by rfl) (hbase : attributeBase o name X.env (eval o X.env) = eval o X.env := by rfl) (hline : (apos.endLine == pos.line) = true := by rfl) :
    PE X (.Call (.Attribute o name apos) [e] [] pos) (tM1 r to te) := by
  intro pins s σ H Q I h
  refine PySem.Call_method1 hbase hs hline (thn (ho pins s σ H _ I h) fun v s1 ⟨x, H1, I1, r1, q1⟩ => ?_)
  obtain ⟨⟨a, rfl⟩, q1⟩ := q1
  obtain ⟨t, rfl⟩ := _root_.id r1
  refine ⟨"str", _, F.plainAttrs_str, slot, ty, typeIs_str _ _ _, (fun _ e => nomatch e), Calls.callWith_builtin rfl (Calls.evalArgs_plain (Calls.spliced_cons ?_))⟩
  exact thn (he pins s1 σ H1 _ I1 q1) fun u s2 ⟨y, H2, I2, r2, q2⟩ => Calls.spliced_nil (rule pins s2 σ H2 _ [y] _ [u] Q I2 r1 (.cons r2 .nil) q2)

theorem pe_split {apos pos : Pos} (ho : PE X o to) (he : PE X e te) (hs : starEach [e] X.env = [(false, eval e X.env)] := by rfl) (hbase : attributeBase o "split" X.env (eval o X.env) = eval o X.env := by rfl) (hline : (apos.endLine == pos.line) = true := by rfl) :
    PE X (.Call (.Attribute o "split" apos) [e] [] pos) (tM1 (fun x xs H Q => ∃ a b, x = .str a ∧ xs = [.str b] ∧ (b.length == 0) = false ∧ a.length + 2 ≤ sizeLine ∧ rNewStrs (Txt.split a b) H Q) to te) :=
  pe_m1 F.slot_str_split F.type_str_split mt_split ho he hs hbase hline
theorem pe_words {apos pos : Pos} (ho : PE X o to) (hbase : attributeBase o "split" X.env (eval o X.env) = eval o X.env := by rfl) (hline : (apos.endLine == pos.line) = true := by rfl) :
    PE X (.Call (.Attribute o "split" apos) [] [] pos) (tM0 (fun x xs H Q => ∃ a, x = .str a ∧ xs = [] ∧ a.length + 2 ≤ sizeLine ∧ rNewStrs (Txt.words a) H Q) to) :=
  pe_m0 F.slot_str_split F.type_str_split mt_words ho hbase hline
theorem pe_partition {apos pos : Pos} (ho : PE X o to) (he : PE X e te) (hs : starEach [e] X.env = [(false, eval e X.env)] := by rfl) (hbase : attributeBase o "partition" X.env (eval o X.env) = eval o X.env := by rfl) (hline : (apos.endLine == pos.line) = true := by rfl) :
    PE X (.Call (.Attribute o "partition" apos) [e] [] pos) (tM1 (fun x xs H Q => ∃ a b, x = .str a ∧ xs = [.str b] ∧ (b.length == 0) = false ∧ a.length ≤ sizeLine ∧
      ∀ p, H p = none → Q (.ref p) (upd H p (.tup [.str (Txt.partition a b).1, .str (Txt.partition a b).2.1, .str (Txt.partition a b).2.2]))) to te) :=
  pe_m1 F.slot_str_partition F.type_str_partition mt_partition ho he hs hbase hline
theorem pe_join {apos pos : Pos} (ho : PE X o to) (he : PE X e te) (hs : starEach [e] X.env = [(false, eval e X.env)] := by rfl) (hbase : attributeBase o "join" X.env (eval o X.env) = eval o X.env := by rfl) (hline : (apos.endLine == pos.line) = true := by rfl) :
    PE X (.Call (.Attribute o "join" apos) [e] [] pos) (tM1 (fun x xs H Q => ∃ a p, ∃ ys : List Str, x = .str a ∧ xs = [.ref p] ∧ (SqL X.K H p (ys.map V.str) ∨ SqT X.K H p (ys.map V.str)) ∧
      (ys.map (·.length)).sum + ys.length * a.length ≤ 16777216 ∧ Q (.str (Txt.join a ys)) H) to te) :=
  pe_m1 F.slot_str_join F.type_str_join mt_join ho he hs hbase hline
theorem pe_strip {apos pos : Pos} (ho : PE X o to) (hbase : attributeBase o "strip" X.env (eval o X.env) = eval o X.env := by rfl) (hline : (apos.endLine == pos.line) = true := by rfl) :
    PE X (.Call (.Attribute o "strip" apos) [] [] pos) (tM0 (fun x xs H Q => ∃ a, x = .str a ∧ xs = [] ∧ a.length ≤ sizeLine ∧ Q (.str (Txt.strip a)) H) to) :=
  pe_m0 F.slot_str_strip F.type_str_strip mt_strip ho hbase hline
theorem pe_lower {apos pos : Pos} (ho : PE X o to) (hbase : attributeBase o "lower" X.env (eval o X.env) = eval o X.env := by rfl) (hline : (apos.endLine == pos.line) = true := by rfl) :
    PE X (.Call (.Attribute o "lower" apos) [] [] pos) (tM0 (fun x xs H Q => ∃ a, x = .str a ∧ xs = [] ∧ a.length ≤ 5592405 ∧ Q (.str (Txt.lower a)) H) to) :=
  pe_m0 F.slot_str_lower F.type_str_lower mt_lower ho hbase hline
theorem pe_upper {apos pos : Pos} (ho : PE X o to) (hbase : attributeBase o "upper" X.env (eval o X.env) = eval o X.env := by rfl) (hline : (apos.endLine == pos.line) = true := by rfl) :
    PE X (.Call (.Attribute o "upper" apos) [] [] pos) (tM0 (fun x xs H Q => ∃ a, x = .str a ∧ xs = [] ∧ a.length ≤ 5592405 ∧ Q (.str (Txt.upper a)) H) to) :=
  pe_m0 F.slot_str_upper F.type_str_upper mt_upper ho hbase hline
end
end L2

namespace L2
open PySem PySem.Spec PyProof.Rows

section
variable {X : Cx}
theorem op_le_str : OpR X (compareOp .LtE) (fun x y H Q => ∃ i j, x = .str i ∧ y = .str j ∧ Q (.bl (!decide (j.cps.toList < i.cps.toList))) H) := by
  intro pins s σ H x y v u Q I rx ry h
  obtain ⟨i, j, rfl, rfl, q⟩ := h
  obtain ⟨t, rfl⟩ := rx
  obtain ⟨t', rfl⟩ := ry
  exact PySem.P.le_str (fin_bl I q rfl)
theorem op_gt_str : OpR X (compareOp .Gt) (fun x y H Q => ∃ i j, x = .str i ∧ y = .str j ∧ Q (.bl (decide (j.cps.toList < i.cps.toList))) H) := by
  intro pins s σ H x y v u Q I rx ry h
  obtain ⟨i, j, rfl, rfl, q⟩ := h
  obtain ⟨t, rfl⟩ := rx
  obtain ⟨t', rfl⟩ := ry
  exact PySem.P.gt_str (fin_bl I q rfl)
theorem op_ge_str : OpR X (compareOp .GtE) (fun x y H Q => ∃ i j, x = .str i ∧ y = .str j ∧ Q (.bl (!decide (i.cps.toList < j.cps.toList))) H) := by
  intro pins s σ H x y v u Q I rx ry h
  obtain ⟨i, j, rfl, rfl, q⟩ := h
  obtain ⟨t, rfl⟩ := rx
  obtain ⟨t', rfl⟩ := ry
  exact PySem.P.ge_str (fin_bl I q rfl)
/-- one sign in a text -/
theorem op_in_sign : OpR X (compareOp .In) (fun x y H Q => ∃ (c : Nat) (z : Str), x = .str ⟨#[c]⟩ ∧ y = .str z ∧ Q (.bl (decide (c ∈ z.cps.toList))) H) := by
  intro pins s σ H x y v u Q I rx ry h
  obtain ⟨c, z, rfl, rfl, q⟩ := h
  obtain ⟨t, rfl⟩ := rx
  obtain ⟨t', rfl⟩ := ry
  exact PyProof.Rows.in_str (fin_bl I q (PySem.StrLaws.found_one z c).symm)
theorem op_notIn_sign : OpR X (compareOp .NotIn) (fun x y H Q => ∃ (c : Nat) (z : Str), x = .str ⟨#[c]⟩ ∧ y = .str z ∧ Q (.bl (!decide (c ∈ z.cps.toList))) H) := by
  intro pins s σ H x y v u Q I rx ry h
  obtain ⟨c, z, rfl, rfl, q⟩ := h
  obtain ⟨t, rfl⟩ := rx
  obtain ⟨t', rfl⟩ := ry
  exact PyProof.Rows.notIn_str (fin_bl I q (congrArg Bool.not (PySem.StrLaws.found_one z c).symm))
end

/-! ### slices of a text -/
theorem IsPart.raw {v : Value} {o : Option Int} (p : IsPart v o) : ∃ l : Option (Int × Tok), v = partValue l ∧ l.map (·.1) = o := by
  cases p with
  | none => exact ⟨none, rfl, rfl⟩
  | int i t => exact ⟨some (i, t), rfl, rfl⟩

/-- a part, clipped, as the text's slice reckons it -/
def clipS (n d : Nat) : Option Int → Int
  | none => (d : Int)
  | some i => max 0 (min (if i < 0 then i + (n : Int) else i) (n : Int))
theorem clipS_eq (n d : Nat) (o : Option Int) : clipS n d o = ((HT.sIx n d o : Nat) : Int) := by
  cases o with
  | none => rfl
  | some v =>
    show max (0 : Int) (min (if v < 0 then v + (n : Int) else v) (n : Int)) = (((if v < 0 then (v + (n : Int)).toNat else min v.toNat n) : Nat) : Int)
    by_cases hv : v < 0
    · simp only [if_pos hv]
      omega
    · simp only [if_neg hv]
      omega
theorem sidx_clip (a b : Option Int) (n : Nat) : Builtin.Str.strSliceIndices a b 1 n = sliceRange (clipS n 0 a) (clipS n n b) 1 := by
  have h1 : ((1 : Int) > 0) = True := by simp
  cases a <;> cases b <;> first
    | rfl
    | (simp only [Builtin.Str.strSliceIndices, clipS, h1, if_true]; rfl)
    | simp [Builtin.Str.strSliceIndices, clipS]
theorem sidx (a b : Option Int) (n : Nat) : Builtin.Str.strSliceIndices a b 1 n = (List.range (HT.sIx n n b - HT.sIx n 0 a)).map (fun k => HT.sIx n 0 a + k) := by
  rw [sidx_clip, clipS_eq, clipS_eq]
  generalize HT.sIx n 0 a = p
  generalize HT.sIx n n b = q
  simp only [sliceRange, show ((1 : Int) > 0) = True from by simp, if_true]
  by_cases hlt : (p : Int) < q
  · have e3 : (((q : Int) - p + 1 - 1) / 1).toNat = q - p := by first | omega | (simp; done) | (simp; omega)
    simp only [hlt, if_true, e3]
    refine List.map_congr_left fun k _ => ?_
    omega
  · have : q - p = 0 := by omega
    simp [hlt, this]

/-- z[lo:hi] -/
def cutS (z : Str) (lo hi : Option Int) : Str :=
  ⟨((z.cps.toList.drop (HT.sIx z.length 0 lo)).take (HT.sIx z.length z.length hi - HT.sIx z.length 0 lo)).toArray⟩
theorem sliceText_cut (z : Str) (lo hi : Option Int) : PySem.StrLaws.sliceText z lo hi = cutS z lo hi := by
  have h1 : HT.sIx z.length 0 lo ≤ z.length := HT.sIx_le _ _ (Nat.zero_le _) _
  have h2 : HT.sIx z.length z.length hi ≤ z.length := HT.sIx_le _ _ (Nat.le_refl _) _
  have hp : HT.sIx z.length 0 lo ≤ max (HT.sIx z.length 0 lo) (HT.sIx z.length z.length hi) := Nat.le_max_left _ _
  have hq : max (HT.sIx z.length 0 lo) (HT.sIx z.length z.length hi) ≤ z.length := Nat.max_le.mpr ⟨h1, h2⟩
  have hd : max (HT.sIx z.length 0 lo) (HT.sIx z.length z.length hi) - HT.sIx z.length 0 lo = HT.sIx z.length z.length hi - HT.sIx z.length 0 lo := by omega
  have e : Builtin.Str.strSliceIndices lo hi 1 z.length =
      Builtin.Str.strSliceIndices (some ((HT.sIx z.length 0 lo : Nat) : Int)) (some ((max (HT.sIx z.length 0 lo) (HT.sIx z.length z.length hi) : Nat) : Int)) 1 z.length := by
    rw [PySem.StrLaws.strSliceIndices_plain hp hq, hd, sidx]
  have e2 : PySem.StrLaws.sliceText z lo hi =
      PySem.StrLaws.sliceText z (some ((HT.sIx z.length 0 lo : Nat) : Int)) (some ((max (HT.sIx z.length 0 lo) (HT.sIx z.length z.length hi) : Nat) : Int)) := by
    unfold PySem.StrLaws.sliceText
    rw [e]
  rw [e2, PySem.StrLaws.sliceText_nat z hp hq, hd]
  rfl
theorem cutS_length (z : Str) (lo hi : Option Int) : (cutS z lo hi).length ≤ z.length := by
  show (((z.cps.toList.drop (HT.sIx z.length 0 lo)).take (HT.sIx z.length z.length hi - HT.sIx z.length 0 lo)).toArray).size ≤ z.cps.size
  rw [List.size_toArray, List.length_take, List.length_drop, Array.length_toList]
  omega
def rSlS : V → Option Int → Option Int → Hp → VK → Prop := fun x lo hi H Q => ∃ z, x = .str z ∧ z.length ≤ sizeLine ∧ Q (.str (cutS z lo hi)) H
theorem sl_str {X : Cx} : SlR X rSlS := by
  intro pins s σ H x v vl vu lo hi sl Q I rx hs pl pu h
  obtain ⟨z, rfl, hz, q⟩ := h
  obtain ⟨t, rfl⟩ := rx
  obtain ⟨os, hos, hcs, hds⟩ := hs
  obtain ⟨l, rfl, rfl⟩ := IsPart.raw pl
  obtain ⟨u, rfl, rfl⟩ := IsPart.raw pu
  refine ⟨"str", _, F.slot_str_getitem.lookup, typeIs_str _ _ _, ?_⟩
  refine wpAny_getItem_str_slice (l := l) (u := u) (st := none) ⟨os, hos, hcs, hds⟩ rfl ?_
  have hl : (PySem.StrLaws.sliceText z (l.map (·.1)) (u.map (·.1))).length ≤ sizeLine := by
    rw [sliceText_cut]
    exact Nat.le_trans (cutS_length z _ _) hz
  rw [← sliceText_cut] at q
  unfold PySem.StrLaws.sliceText at q hl
  show Made.post (if ((1 : Int) == 1 && (Builtin.Str.strSliceIndices (l.map (·.1)) (u.map (·.1)) 1 z.length).length == z.length) = true then Made.val (.str z t)
    else Made.str ⟨((Builtin.Str.strSliceIndices (l.map (·.1)) (u.map (·.1)) 1 z.length).filterMap (z.cps[·]?)).toArray⟩) (EP X pins σ Q) s
  by_cases c : ((1 : Int) == 1 && (Builtin.Str.strSliceIndices (l.map (·.1)) (u.map (·.1)) 1 z.length).length == z.length) = true
  · rw [if_pos c] at q ⊢
    exact ⟨.str z, H, I, ⟨t, rfl⟩, q⟩
  · rw [if_neg c] at q hl ⊢
    exact ⟨hl, .str _, H, I.tok _, ⟨_, rfl⟩, q⟩
end L2

namespace Att
open PySem PySem.W PySem.Calls PyProof.Rows

/-! ### the script -/
theorem ints_of_wellAll {P : Params} {h : Heap} : ∀ (ns : List Int) (vs : List Value), WellAll P h vs (ns.map WData.int) → IntsAre vs ns := by
  intro ns
  induction ns with
  | nil =>
    intro vs w
    rw [List.map_nil] at w
    cases w
    exact .nil
  | cons n ns ih =>
    intro vs w
    rw [List.map_cons] at w
    cases w with
    | cons a b =>
      cases a
      exact .cons _ _ (ih _ b)

theorem script_of {l : OpenLaw} {n : Nat} (hn : l.most = some n) {P : Params} {h : Heap} {args : List WData} {vals : List Value}
    (hpre : l.row.toRowW.claim.pre args = true) (hwl : WellAll P h vals args) :
    ∃ a vs ns, vals = [Value.ref a] ∧ args = [WData.list (ns.map WData.int)] ∧ h.get? a = some { cls := .type "list", data := .seq vs.toArray } ∧ IntsAre vs ns ∧ ns.length ≤ n := by
  have hsh : WShape.hasAll [] args [.list .int] = true := (pre_splitW hpre).1
  have hc : l.pre.holds [] { args := args } = true := (pre_splitW hpre).2
  obtain ⟨d, r, rfl, h1, h2⟩ := hasAllW_cons hsh
  obtain rfl := hasAllW_nil h2
  obtain ⟨xs, rfl, h3⟩ := hasW_list h1
  obtain ⟨ns, rfl⟩ := items_int h3
  have hlen : ns.length ≤ n := by
    unfold OpenLaw.pre at hc
    have h4 : (WTm.not (.lt (.lit (.int (n : Int))) (.len (.arg 0)))).holds [] { args := [.list (ns.map .int)] } = true := by
      have h4 := (holds_andW hc).1
      rw [hn] at h4
      exact h4
    have h5 := condW_of h4 (w_not (w_lt w_lit (w_len_list (w_arg rfl))))
    rw [List.length_map] at h5
    refine Nat.le_of_not_lt fun q => ?_
    have q' : (n : Int) < ((ns.length : Nat) : Int) := by omega
    first
      | (rw [decide_eq_true q'] at h5; exact absurd h5 (by decide))
      | (simp at h5; omega)
  cases hwl with
  | cons w1 w2 =>
    cases w2
    cases w1 with
    | list ho hall => exact ⟨_, _, ns, rfl, rfl, ho, ints_of_wellAll ns _ hall, hlen⟩

theorem post_true (l : OpenLaw) (args : List WData) : l.row.toRowW.claim.post args (.bool true) args = true :=
  postW_of (r := l.row.toRowW) (X := (true == true))
    (show WShape.has [] (.bool true) .bool = true by first | rfl | decide | simp [WShape.has, WShape.arms, WShape.armsAll])
    (show (WTm.eq .res (.lit (.bool true))).value [] { args := args, res := some (.bool true), after := args } = some (.bool (true == true)) from w_eq_bool (w_res rfl) w_lit) rfl

/-! ### the attachment: holds_open's last premise (the goal 'hc' behind k_head) from a wpAny of the law's body -/
theorem attach {l : OpenLaw} {n : Nat} {q : Program} {loose : List Str} {XP : (Str → Option Value) → Heap → Prop} {YP : World → Heap → Prop} {d : DefRec} {x : Str}
    (hn : l.most = some n) (hdf : d.params.defaults = [])
    (hbind : ∀ pm cd doc v : Value, bindArgs (docDef d.name d.params d.body d.scope pm cd doc) ⟨[v], []⟩ = pure [(x, v)])
    (hx : d.scope.names.lookup x = some .local ∨ d.scope.names.lookup x = some .cell)
    (hk : d.scope.kind = .function) (hco : d.scope.isCoroutine = false) (hgen : d.scope.isGenerator = false)
    (body : ∀ (w : World) (s₀ s₁ s : Shared) (mg mb : Str → Option Value) (fa : Addr) (o : Obj) (pm cd doc : Value) (a : Addr) (vs : List Value) (ns : List Int),
      Ground q loose [] XP w s₀ mg mb s₁.heap → YP w s₁.heap →
      s₁.heap.get? fa = some o → o.data = .func (docDef d.name d.params d.body d.scope pm cd doc) → s₁.heap.CodeRec cd d.name → mg d.name = some (.ref fa) →
      s₁.heap.get? a = some { cls := .type "list", data := .seq vs.toArray } → IntsAre vs ns → ns.length ≤ n →
      s.gens = #[] → s.os = s₁.os →
      Fr s₁.heap s₁.heap.objs.size s.heap (bindL (envOfC d.name d.scope s₁.heap.objs.size fa cd).kindOf [(x, .ref a)] fun _ => none) →
      Cl s₁.heap.objs.size (cellsFrom (s₁.heap.objs.size + 1) d.scope.names []) s.heap (bindC (envOfC d.name d.scope s₁.heap.objs.size fa cd).kindOf [(x, .ref a)] fun _ => none) →
      wpAny (model l.prog w) (callerA.deeper (envOfC d.name d.scope s₁.heap.objs.size fa cd)) (execs d.body (envOfC d.name d.scope s₁.heap.objs.size fa cd))
        (fun f s' => f = .ret (.bool true) ∧ OldK s₁.heap s'.heap ∧ s'.os = s₁.os ∧ AllBare s'.gens) (fun _ _ => False) s) :
    WalkO q loose XP YP l.row.toRowW d [] (fun f vs => PySem.call f vs) := by
  intro w s₀ s₁ mg mb G Y fa o pm cd doc dV kV ho hd hcd hD hmg hg args vals as hpre hlay hrd hwl hlo
  obtain rfl : dV = .none := Dflts.none hD hdf
  obtain rfl : kV = .none := Dflts.noKw hD
  obtain ⟨a, vs, ns, rfl, rfl, hobj, hints, hlen⟩ := script_of hn hpre hwl
  refine enter_call ?_
  refine call_cells_ret (o := o) (by rw [depth_caller]; decide) ho (fd_plain hd) G.T.nolimit hcd (hbind pm cd doc (.ref a)) (fun y hy => ?_) (fun h₁ tk F X => ?_) hco hgen hk
  · obtain rfl : y = (x, Value.ref a) := List.mem_singleton.mp hy
    rcases hx with e | e
    · exact .inl e
    · exact .inr ⟨e, cellsFrom_some _ _ _ (.inl e)⟩
  · refine wpAny_mono (body w s₀ s₁ { s₁ with heap := h₁, toks := tk } mg mb fa o pm cd doc a vs ns G Y ho (fd_plain hd) hcd hmg hobj hints hlen hg rfl F X) (fun f s' hq => ?_) (fun _ _ hq => hq)
    obtain ⟨rfl, h2, h3, h4⟩ := hq
    exact ⟨.inl ⟨.bool true, .bool true, [], rfl, fun _ => rfl, .bool true, post_true l _, fun _ => ⟨List.Pairwise.nil, fun _ hm => (nomatch hm)⟩⟩, h2, h3, h4⟩

/-- the same from a codeAny of the CALL (for a layer whose function contracts speak of calls) -/
theorem attach_call {l : OpenLaw} {n : Nat} {q : Program} {loose : List Str} {XP : (Str → Option Value) → Heap → Prop} {YP : World → Heap → Prop} {d : DefRec}
    (hn : l.most = some n) (hdf : d.params.defaults = [])
    (call : ∀ (w : World) (s₀ s₁ : Shared) (mg mb : Str → Option Value) (fa : Addr) (o : Obj) (pm cd doc : Value) (a : Addr) (vs : List Value) (ns : List Int),
      Ground q loose [] XP w s₀ mg mb s₁.heap → YP w s₁.heap →
      s₁.heap.get? fa = some o → o.data = .func (docDef d.name d.params d.body d.scope pm cd doc) → s₁.heap.CodeRec cd d.name → mg d.name = some (.ref fa) →
      s₁.heap.get? a = some { cls := .type "list", data := .seq vs.toArray } → IntsAre vs ns → ns.length ≤ n → s₁.gens = #[] →
      codeAny (model l.prog w) callerA (.call (.ref fa) ⟨[.ref a], []⟩) (fun r s' => r = .ok (.ret (.bool true)) ∧ OldK s₁.heap s'.heap ∧ s'.os = s₁.os ∧ AllBare s'.gens) s₁) :
    WalkO q loose XP YP l.row.toRowW d [] (fun f vs => PySem.call f vs) := by
  intro w s₀ s₁ mg mb G Y fa o pm cd doc dV kV ho hd hcd hD hmg hg args vals as hpre hlay hrd hwl hlo
  obtain rfl : dV = .none := Dflts.none hD hdf
  obtain rfl : kV = .none := Dflts.noKw hD
  obtain ⟨a, vs, ns, rfl, rfl, hobj, hints, hlen⟩ := script_of hn hpre hwl
  refine enter_call (codeAny_mono (call w s₀ s₁ mg mb fa o pm cd doc a vs ns G Y ho (fd_plain hd) hcd hmg hobj hints hlen hg) fun r s' hq => ?_)
  obtain ⟨rfl, h2, h3, h4⟩ := hq
  exact ⟨.inl ⟨.bool true, .bool true, [], rfl, fun _ => rfl, .bool true, post_true l _, fun _ => ⟨List.Pairwise.nil, fun _ hm => (nomatch hm)⟩⟩, h2, h3, h4⟩

/-- the same where the top left finished generators (o_head chose holds_openN): nothing may have changed at all and no generator may be left -/
theorem attachN {l : OpenLaw} {n : Nat} {q : Program} {loose : List Str} {XP : (Str → Option Value) → Heap → Prop} {YP : World → Heap → Prop} {d : DefRec} {x : Str}
    (hn : l.most = some n) (hdf : d.params.defaults = [])
    (hbind : ∀ pm cd doc v : Value, bindArgs (docDef d.name d.params d.body d.scope pm cd doc) ⟨[v], []⟩ = pure [(x, v)])
    (hx : d.scope.names.lookup x = some .local ∨ d.scope.names.lookup x = some .cell)
    (hk : d.scope.kind = .function) (hco : d.scope.isCoroutine = false) (hgen : d.scope.isGenerator = false)
    (body : ∀ (w : World) (s₀ s₁ s : Shared) (mg mb : Str → Option Value) (fa : Addr) (o : Obj) (pm cd doc : Value) (a : Addr) (vs : List Value) (ns : List Int),
      Ground q loose [] XP w s₀ mg mb s₁.heap → YP w s₁.heap →
      s₁.heap.get? fa = some o → o.data = .func (docDef d.name d.params d.body d.scope pm cd doc) → s₁.heap.CodeRec cd d.name → mg d.name = some (.ref fa) →
      s₁.heap.get? a = some { cls := .type "list", data := .seq vs.toArray } → IntsAre vs ns → ns.length ≤ n →
      s.gens = #[] → s.os = s₁.os →
      Fr s₁.heap s₁.heap.objs.size s.heap (bindL (envOfC d.name d.scope s₁.heap.objs.size fa cd).kindOf [(x, .ref a)] fun _ => none) →
      Cl s₁.heap.objs.size (cellsFrom (s₁.heap.objs.size + 1) d.scope.names []) s.heap (bindC (envOfC d.name d.scope s₁.heap.objs.size fa cd).kindOf [(x, .ref a)] fun _ => none) →
      wpAny (model l.prog w) (callerA.deeper (envOfC d.name d.scope s₁.heap.objs.size fa cd)) (execs d.body (envOfC d.name d.scope s₁.heap.objs.size fa cd))
        (fun f s' => f = .ret (.bool true) ∧ (∀ b o, s₁.heap.get? b = some o → s'.heap.get? b = some o) ∧ s'.os = s₁.os ∧ s'.gens = #[]) (fun _ _ => False) s) :
    WalkN q loose XP YP l.row.toRowW d [] (fun f vs => PySem.call f vs) := by
  intro w s₀ s₁ mg mb G Y fa o pm cd doc dV kV ho hd hcd hD hmg hg args vals as hpre hlay hrd hwl hlo
  obtain rfl : dV = .none := Dflts.none hD hdf
  obtain rfl : kV = .none := Dflts.noKw hD
  obtain ⟨a, vs, ns, rfl, rfl, hobj, hints, hlen⟩ := script_of hn hpre hwl
  refine enter_callW ?_
  refine call_cells_ret (o := o) (by rw [depth_caller]; decide) ho (fd_plain hd) G.T.nolimit hcd (hbind pm cd doc (.ref a)) (fun y hy => ?_) (fun h₁ tk F X => ?_) hco hgen hk
  · obtain rfl : y = (x, Value.ref a) := List.mem_singleton.mp hy
    rcases hx with e | e
    · exact .inl e
    · exact .inr ⟨e, cellsFrom_some _ _ _ (.inl e)⟩
  · refine wpAny_mono (body w s₀ s₁ { s₁ with heap := h₁, toks := tk } mg mb fa o pm cd doc a vs ns G Y ho (fd_plain hd) hcd hmg hobj hints hlen hg rfl F X) (fun f s' hq => ?_) (fun _ _ hq => hq)
    obtain ⟨rfl, h2, h3, h4⟩ := hq
    exact ⟨.inl ⟨.bool true, .bool true, [], rfl, fun _ => rfl, .bool true, post_true l _, fun _ => ⟨List.Pairwise.nil, fun _ hm => (nomatch hm)⟩⟩, h2, h3, h4⟩

/-! ### rules over ANY heap (no ledger) from facts about the written part K: the library's own take a ledger (News) for what they write -/
section
variable {prog : Program} {w : World} {A : Around} {E : Value → Shared → Prop} {s : Shared} {K : Frag}

/-- a def of the module, or a method (qual 'C.m'), entered: the frame is the next address; cells behind it -/
theorem call_fn {R : Result → Shared → Prop} {name qual : Str} {params : Arguments} {body : List Stmt} {scope : Scope} {dV kV doc pm cdv ct oc : Value} {an od : Option Addr} {osl : Array (Option Value)} {f : Addr} {args : Args} {binds : List (Str × Value)}
    (X : K.In s.heap) (hlim : s.heap.NoLimit) (ho : K.lookup f = some ⟨oc, od, .func (fnOf name qual params body scope dV kV doc pm an cdv ct), osl⟩) (hcd : codeIn K cdv qual = true) (hroom : A.depth < recursionLimit)
    (hbind : BindsTo s (fnOf name qual params body scope dV kV doc pm an cdv ct) args binds)
    (hkind : (binds.all fun y => scope.names.lookup y.1 == some .local || scope.names.lookup y.1 == some .cell) = true)
    (h : ∀ s₁, InCallC s s.heap.objs.size (bindL (envOfC qual scope s.heap.objs.size f cdv).kindOf binds fun _ => none) (cellsFrom (s.heap.objs.size + 1) scope.names [])
        (bindC (envOfC qual scope s.heap.objs.size f cdv).kindOf binds fun _ => none) s₁ →
      wpAny (model prog w) (A.deeper (envOfC qual scope s.heap.objs.size f cdv)) (execs body (envOfC qual scope s.heap.objs.size f cdv))
        (fun fl s' => R (.ok (.ret (match fl with | .ret v => v | _ => .none))) s')
        (fun e s' => wpAny (model prog w) (A.deeper (envOfC qual scope s.heap.objs.size f cdv)) (leaving (envOfC qual scope s.heap.objs.size f cdv) e) (fun _ s'' => R (.error e) s'') (fun e' s'' => R (.error e') s'') s') s₁)
    (hco : scope.isCoroutine = false) (hgen : scope.isGenerator = false) (hk : scope.kind = .function) : codeAny (model prog w) A (.call (.ref f) args) R s := by
  refine codeAny_call_function hroom (X _ _ ho) rfl hco hgen rfl (codeRec_of X hcd) (hbind _ _ _ _ ?_)
  refine wpAny_newFunctionEnv_cells hk (kindsX hkind _) fun env he s₁ x => ?_
  subst he
  exact ⟨hlim.keeps x.toInCall.keep, codeAny_func (h s₁ x)⟩

/-- C(..): dict at size, instance at size + 1, then __init__ -/
theorem make_obj {R : Result → Shared → Prop} {C fI : Addr} {rest : List Value} {kw : List (Str × Value)}
    (X : K.In s.heap) (hm : makesIn K C = true) (hi : findIn K (.ref C) "__init__" = some (some (.ref fI))) (hf : isFn K (.ref fI) = true)
    (h : codeAny (model prog w) (A.under (.builtin "type.__call__" ⟨.ref C :: rest, kw⟩)) (.call (.ref fI) ⟨.ref (s.heap.objs.size + 1) :: rest, kw⟩) (InitBack (s.heap.objs.size + 1) R)
      { s with heap := (s.heap.push emptyDict).push (instObj C s.heap.objs.size) }) : codeAny (model prog w) A (.call (.ref C) ⟨rest, kw⟩) R s := by
  obtain ⟨hh, g, d, t, os⟩ := s
  exact make_core (makes_of X hm) (looks_findIn X hi) (fun self => bind_fn X self (beq_iff_eq.mp hf)) (.inl rfl) h

/-- x.name where the instance's dict holds the name and the class does not -/
theorem get_field {x C : Addr} {ox : Obj} {es : List DictEntry} {n : Nat} {name : Str} {expr : Bool} {v : Value} {Q : Value → Shared → Prop}
    (X : K.In s.heap) (I : PySem.W.InstAt s.heap x ox C (some (dictOf es n))) (hg : plainGet K C name = true) (hh : hasDictIn K C = true) (ha : findIn K (.ref C) name = some none)
    (hl : getL name es = some (some v)) (hv : handedIn v = true) (h : Q v { s with toks := s.toks + 1 }) : wpAny (model prog w) A (getAttr (.ref x) name expr) Q E s :=
  get_value X I (plainGet_of hg).1 (findObj_own hh ha rfl hl) hv h

/-- x.m(..): the method found in the class -/
theorem get_method {x C f : Addr} {ox : Obj} {es : List DictEntry} {n : Nat} {name : Str} {pl : Sem Bool} {Q : Value × List Value → Shared → Prop}
    (X : K.In s.heap) (I : PySem.W.InstAt s.heap x ox C (some (dictOf es n))) (hg : plainGet K C name = true) (hf : findIn K (.ref C) name = some (some (.ref f))) (ht : isFn K (.ref f) = true)
    (hl : getL name es = some none) (h : Q (.ref f, [.ref x]) s) : wpAny (model prog w) A (getMethod (.ref x) name pl) Q E s :=
  method_fn X I (plainGet_of hg).1 (plainGet_of hg).2 hf (beq_iff_eq.mp ht) (by show (lookIn name (dictOf es n)).map _ = _; rw [lookIn_dict, hl]; rfl) h

/-! the whole heap as the ledger: makes every rule that writes through a ledger a rule over any heap -/
def noObjs (h : Heap) : Heap := { h with objs := #[] }
theorem noObjs_get (h : Heap) (b : Addr) : (noObjs h).get? b = none := by
  cases e : (noObjs h).get? b with
  | none => rfl
  | some o => exact absurd (Heap.lt_size e) (Nat.not_lt_zero _)
def ledger (h : Heap) (L d : Addr) : List (Addr × Obj) := (List.range h.objs.size).filterMap fun a => if a = L ∨ a = d then none else (h.get? a).map fun o => (a, o)
theorem mem_ledger {h : Heap} {L d a : Addr} {o : Obj} : (a, o) ∈ ledger h L d ↔ a ≠ L ∧ a ≠ d ∧ h.get? a = some o := by
  unfold ledger
  rw [List.mem_filterMap]
  constructor
  · rintro ⟨b, _, e⟩
    split at e
    · cases e
    · rename_i hb
      obtain ⟨o', ho, e'⟩ := Option.map_eq_some_iff.mp e
      cases e'
      exact ⟨fun q => hb (.inl q), fun q => hb (.inr q), ho⟩
  · rintro ⟨n1, n2, ho⟩
    refine ⟨a, List.mem_range.mpr (Heap.lt_size ho), ?_⟩
    rw [if_neg (show ¬ (a = L ∨ a = d) from fun q => q.elim n1 n2), ho] <;> rfl
theorem news_ledger {h : Heap} {L d : Addr} {od : Obj} (hne : d ≠ L) (ho : h.get? d = some od) : News (noObjs h) L h ([] ++ (d, od) :: ledger h L d) := by
  rintro ⟨a, o⟩ hp
  rcases List.mem_cons.mp hp with e | hp
  · cases e
    exact ⟨ho, hne, noObjs_get _ _⟩
  · obtain ⟨n1, n2, e⟩ := mem_ledger.mp hp
    exact ⟨e, n1, noObjs_get _ _⟩
theorem fr_all {h : Heap} {L : Addr} {m : Str → Option Value} (n : h.Ns L m) : Fr (noObjs h) L h m :=
  ⟨n, fun b o e => (by rw [noObjs_get] at e; cases e), Nat.zero_le _⟩
/-- Upd of the head entry (for append_K, setItem_K ..) -/
theorem upd_ledger {h : Heap} {L d : Addr} {o o' : Obj} : Upd d o o' ((d, o) :: ledger h L d) ((d, o') :: ledger h L d) :=
  .head fun ⟨_, _⟩ hp => (mem_ledger.mp hp).2.1

/-- x.name = v over any heap: L is any namespace of the heap (the frame's, say): its map stays, its object is not told; all else but the dict stays -/
theorem set_field {x C dx L : Addr} {ox : Obj} {m : Str → Option Value} {es es' : List DictEntry} {n n' : Nat} {name : Str} {v : Value} {Q : Unit → Shared → Prop}
    (X : K.In s.heap) (I : PySem.W.InstAt s.heap x ox C (some (dictOf es n))) (hd : ox.dict = some dx) (hL : s.heap.Ns L m) (hne : dx ≠ L)
    (hs : findIn K (.ref C) "__setattr__" = some (some (.builtin "object.__setattr__"))) (hp : plainOver K C = true) (ht : takerIn K C name = some none) (hh : hasDictIn K C = true) (hl : (getL name es).isSome = true)
    (e : (putL name (PyData.keyHash w.params name) (.str name (s.toks + 1)) v es, putN name es n) = (es', n')) (hz : es'.length ≤ 1000)
    (h : ∀ h' : Heap, h'.Ns L m → h'.get? dx = some (dictOf es' n') → (∀ b o, b ≠ dx → b ≠ L → s.heap.get? b = some o → h'.get? b = some o) → Q () { s with heap := h', toks := s.toks + 2 }) :
    wpAny (model prog w) A (setAttr (.ref x) name v) Q E s := by
  obtain ⟨e1, e2⟩ := Prod.mk.inj e
  have hdx : s.heap.get? dx = some (dictOf es n) := by
    have := I.dict
    rw [hd] at this
    exact this
  refine set_plain X I hs (osa_dict (s := { s with toks := s.toks + 1 }) (h₀ := noObjs s.heap) (L := L) (m := m) (od := dictOf es n) (od' := dictOf es' n') (es := es') (n := n') (pre := []) (post := ledger s.heap L dx)
    (fr_all hL) (news_ledger hne hdx) X I hd hp ht hh hl (fun _ q => nomatch q) (fun ⟨_, _⟩ q => (mem_ledger.mp q).2.1) (by rw [putName_dict, e1, e2]) rfl hz fun h' F' N' => ?_)
  exact h h' F'.ns (N'.get (List.Mem.head _)) fun b o n1 n2 ho => N'.get (List.Mem.tail _ (mem_ledger.mpr ⟨n2, n1, ho⟩))
end
end Att

namespace L2
open PySem PySem.Spec PyProof.Rows

theorem vals_ints : ∀ {vs : List Value} {ns : List Int}, IntsAre vs ns → Vals (ns.map V.int) vs
  | _, _, .nil => .nil
  | _, _, .cons n t h => .cons ⟨t, rfl⟩ (vals_ints h)

/-- nothing is tracked but the script, known to the object (or it is an object of the module) -/
def Only (H : Hp) : Prop := ∀ b, H b = none ∨ ∃ o xs, H b = some (.frz o (.lst xs))

/-- THE HEAD: the law's promise, at the heap behind the top. F, the promise of the law's def, may use that base is part of the heap (so K.In base, base.Ns mainGlobals mg stand in Mod) -/
theorem law_call {P : Program} {w : World} {K : PySem.W.Frag} {mg mb : Str → Option Value} {CX : CXT} {k : Nat} {fa a : Addr} {fd : FuncData} {x : Str} {sp : Sp} {s₁ : Shared} {vs : List Value} {ns : List Int}
    (KX : K.In s₁.heap) (hns : s₁.heap.Ns mainGlobals mg) (hb : s₁.heap.Ns builtinsNs mb) (hbb : ∀ x : Str, x ≠ "__name__" → mb x = bootBuiltins x) (hlim : s₁.heap.NoLimit) (hg : s₁.gens = #[])
    (ha : s₁.heap.get? a = some { cls := .type "list", data := .seq vs.toArray }) (hi : IntsAre vs ns) (hl : ns.length ≤ sizeLine) (hr : Room k callerA)
    (F : ∀ base : Heap, K.In base → base.Ns mainGlobals mg → FnOk P w K mg base CX k fa fd [x] sp) (hbind : ∀ (s : Shared) (u : Value), BindsTo s fd ⟨[u], []⟩ [(x, u)])
    (hsp : ∀ H : Hp, Only H → SqL K H a (ns.map V.int) → sp [.ref a] H (fun v _ => v = .bl true) fun _ _ _ => False)
    (hCX : ∀ H e s', CX [] H s₁ (fun _ _ _ => False) e s' → False) :
    codeAny (model P w) callerA (.call (.ref fa) ⟨[.ref a], []⟩) (fun r s' => r = .ok (.ret (.bool true)) ∧ OldK s₁.heap s'.heap ∧ s'.os = s₁.os ∧ AllBare s'.gens) s₁ := by
  have rv := vals_ints hi
  have lenV := hi.length
  -- from an abstract heap in which nothing but the script may be tracked
  have core : ∀ H : Hp, Only H → SqL K H a (ns.map V.int) → HOk P w H s₁.heap → (∀ b, H b ≠ none → b = a) → (H a ≠ none → K.lookup a = none) →
      codeAny (model P w) callerA (.call (.ref fa) ⟨[.ref a], []⟩) (fun r s' => r = .ok (.ret (.bool true)) ∧ OldK s₁.heap s'.heap ∧ s'.os = s₁.os ∧ AllBare s'.gens) s₁ := by
    intro H hO hS hok hA hK
    have base_of : ∀ {b : Addr} {o : Obj}, s₁.heap.get? b = some o → H b = none → (hidT s₁.heap H).get? b = some o := fun e n => hidT_get e n
    have noA : ∀ {b : Addr} {o : Obj} {es : Array DictEntry} {ep : Nat}, s₁.heap.get? b = some o → o.data = .dict es ep → H b = none := fun {b o es ep} e d => by
      cases q : H b with
      | none => rfl
      | some u =>
        have e' : b = a := hA b (by rw [q]; simp)
        subst e'
        rw [ha] at e; cases e
        have d' : Data.seq vs.toArray _ = Data.dict es ep := d
        cases d'
    have nsK : ∀ {b : Addr} {m : Str → Option Value}, s₁.heap.Ns b m → (hidT s₁.heap H).Ns b m := fun {b m} ⟨o, es, ep, e, d, r⟩ => ⟨o, es, ep, base_of e (noA e d), d, r⟩
    have hKb : K.In (hidT s₁.heap H) := fun b o e => base_of (KX b o e) (by
      cases q : H b with
      | none => rfl
      | some u =>
        have e' : b = a := hA b (by rw [q]; simp)
        subst e'
        rw [hK (by rw [q]; simp)] at e; cases e)
    have hM : Mod K mg (hidT s₁.heap H) := ⟨hKb, nsK hns, ⟨mb, nsK hb, hbb⟩, let ⟨mc, h1, h2⟩ := hlim; ⟨mc, nsK h1, h2⟩⟩
    have e0 : Env0 P w K mg (hidT s₁.heap H) callerA [] s₁ H := ⟨rfl, hM, fun b o e => of_hidT e, Nat.le_of_eq (hidT_size _ _), trivial, fun b hb => absurd (show b ∈ ([] : List Addr) from hb) (by simp), hok, .of_eq hg⟩
    refine codeAny_mono ((F _ hKb (nsK hns)).run callerA [] s₁ H ⟨[.ref a], []⟩ [.ref a] [.ref a] _ _ hr e0 (hbind s₁ (.ref a)) (.cons rfl .nil) (hsp H hO hS)) fun r s' h => ?_
    cases r with
    | error e => exact (hCX H e s' h).elim
    | ok fl =>
      cases fl with
      | next => exact False.elim h
      | brk => exact False.elim h
      | cont => exact False.elim h
      | ret u =>
        obtain ⟨v, H', os, bare, un, hok', r', q⟩ := h
        have q' : v = .bl true := q
        subst q'
        obtain rfl : u = Value.bool true := r'
        refine ⟨rfl, OldK.of_keep fun b o e => ?_, os, bare⟩
        cases q : H b with
        | none => exact un.keep b o e q (by intro z; exact absurd (show b ∈ ([] : List Addr) from z) (by simp)) (by simp)
        | some u =>
          rcases hO b with z | ⟨ob, xs, z⟩
          · rw [q] at z; cases z
          · have z2 := un.frzs b ob _ z
            obtain ⟨e1, _⟩ := hok b _ z
            obtain ⟨e2, _⟩ := hok' b _ z2
            rw [e] at e1; cases e1
            exact e2
  cases hk : K.lookup a with
  | some o =>
    -- the script is one of the module's own objects
    have e := KX a o hk
    rw [ha] at e
    cases e
    refine core (fun _ => none) (fun _ => .inl rfl) (.inr ⟨_, vs.toArray, _, hk, rfl, rfl, rfl, by rw [List.size_toArray, lenV]; exact hl, by simpa using rv⟩) (fun b u z => by have z' : (none : Option HO) = some u := z; cases z') (fun b z => absurd rfl z) fun z => absurd rfl z
  | none =>
    refine core (fun b => if b = a then some (.frz { cls := .type "list", data := .seq vs.toArray } (.lst (ns.map V.int))) else none) (fun b => ?_) (.inl (.inr ⟨{ cls := .type "list", data := .seq vs.toArray }, if_pos rfl⟩)) (fun b u z => ?_) (fun b z => ?_) fun _ => hk
    · by_cases hb : b = a
      · exact .inr ⟨_, _, if_pos hb⟩
      · exact .inl (if_neg hb)
    · by_cases hb : b = a
      · have z' := (if_pos hb).symm.trans z
        cases z'
        subst hb
        exact ⟨ha, by rw [List.length_map]; exact hl, vs, _, rv, ha⟩
      · have z' := (if_neg hb).symm.trans z
        cases z'
    · by_cases hb : b = a
      · exact hb
      · exact absurd (if_neg hb) z
end L2

namespace L2
open PySem PySem.Spec PyProof.Rows

abbrev KOf {K : PySem.W.Frag} {h : Heap} (_ : K.In h) : PySem.W.Frag := K

/-- the goal that k_head leaves (case hc), from the law's promise. F gives the function object fd (K's own) once, then the promise over every base -/
theorem walk_of {l : PySem.W.OpenLaw} {n k : Nat} {q : Program} {loose : List Str} {XP : (Str → Option Value) → Heap → Prop} {YP : World → Heap → Prop} {d : DefRec} {K : Params → PySem.W.Frag} {CX : World → CXT} {sp : World → Sp} {x : Str}
    (hn : l.most = some n) (hn2 : n ≤ sizeLine) (hdf : d.params.defaults = []) (hr : Room k callerA)
    (hY : ∀ (w : World) (h : Heap), YP w h → (K w.params).In h)
    (F : ∀ (w : World) (mg : Str → Option Value) (fa : Addr) (h : Heap), (K w.params).In h → h.Ns mainGlobals mg → mg d.name = some (.ref fa) →
      ∃ fd : FuncData, (∀ (s : Shared) (u : Value), BindsTo s fd ⟨[u], []⟩ [(x, u)]) ∧
        ∀ base : Heap, (K w.params).In base → base.Ns mainGlobals mg → FnOk l.prog w (K w.params) mg base (CX w) k fa fd [x] (sp w))
    (hsp : ∀ (w : World) (H : Hp) (a : Addr) (ns : List Int), ns.length ≤ n → Only H → SqL (K w.params) H a (ns.map V.int) → sp w [.ref a] H (fun v _ => v = .bl true) fun _ _ _ => False)
    (hCX : ∀ (w : World) (H : Hp) (s : Shared) (e : Value) (s' : Shared), CX w [] H s (fun _ _ _ => False) e s' → False) :
    PySem.W.WalkO q loose XP YP l.row.toRowW d [] (fun f vs => PySem.call f vs) := by
  refine Att.attach_call hn hdf fun w s₀ s₁ mg mb fa o pm cd doc a vs ns G Y ho hd hcd hmg hobj hints hlen hg => ?_
  have KX := hY w _ Y
  obtain ⟨fd, hb, hF⟩ := F w mg fa _ KX G.T.g hmg
  exact law_call KX G.T.g G.T.b G.T.builtins G.T.nolimit hg hobj hints (Nat.le_trans hlen hn2) hr hF hb (fun H hO hS => hsp w H a ns hlen hO hS) fun H e s' => hCX w H s₁ e s'
/-- the same where the promise hangs on the written part alone: (sp := My.sp_law), no hole under a binder -/
theorem walk_ofK {l : PySem.W.OpenLaw} {n k : Nat} {q : Program} {loose : List Str} {XP : (Str → Option Value) → Heap → Prop} {YP : World → Heap → Prop} {d : DefRec} {K : Params → PySem.W.Frag} {CX : CXT} {sp : PySem.W.Frag → Sp} {x : Str}
    (hn : l.most = some n) (hn2 : n ≤ sizeLine) (hdf : d.params.defaults = []) (hr : Room k callerA)
    (hY : ∀ (w : World) (h : Heap), YP w h → (K w.params).In h)
    (F : ∀ (w : World) (mg : Str → Option Value) (fa : Addr) (h : Heap), (K w.params).In h → h.Ns mainGlobals mg → mg d.name = some (.ref fa) →
      ∃ fd : FuncData, (∀ (s : Shared) (u : Value), BindsTo s fd ⟨[u], []⟩ [(x, u)]) ∧
        ∀ base : Heap, (K w.params).In base → base.Ns mainGlobals mg → FnOk l.prog w (K w.params) mg base CX k fa fd [x] (sp (K w.params)))
    (hsp : ∀ (K : PySem.W.Frag) (H : Hp) (a : Addr) (ns : List Int), ns.length ≤ n → Only H → SqL K H a (ns.map V.int) → sp K [.ref a] H (fun v _ => v = .bl true) fun _ _ _ => False)
    (hCX : ∀ (H : Hp) (s : Shared) (e : Value) (s' : Shared), CX [] H s (fun _ _ _ => False) e s' → False) :
    PySem.W.WalkO q loose XP YP l.row.toRowW d [] (fun f vs => PySem.call f vs) :=
  walk_of (K := K) (CX := fun _ => CX) (sp := fun w => sp (K w.params)) hn hn2 hdf hr hY F (fun w H a ns h1 h2 h3 => hsp (K w.params) H a ns h1 h2 h3) fun _ H s e s' => hCX H s e s'
end L2

/- THE LAST THEOREM (shape; LID, My.* are yours):
   My.Adr: a structure of the addresses that your layer names (classes, functions); My.Txt K t: a structure (Prop) of the equations over K;
   My.txt_mk : {K} {implicit addresses ..} (e1 : nsIn K mainGlobals "law" = some (some (.ref f))) (e2 : K.lookup f = some ⟨oc, od, .func (fnOf "law" "law" params body scope dV kV doc pm an cdv ct), sl⟩) (e3 : codeIn K cdv "law" = true) .. : ∃ t, My.Txt K t

set_option maxRecDepth 100000 in
set_option maxHeartbeats 0 in
theorem PySem.Challenge.cw_LID_holds : PySem.Challenge.rw_LID.Holds := by
  w_on; o_law; k_head; (case hw => w_witness2)
  k_fill
  refine L2.walk_of (l := PySem.Challenge.rw_LID) (n := 63) (k := 40) (x := "script") (CX := fun w => ..) (sp := fun _ => My.sp_law) rfl (by decide) rfl ⟨rfl, by decide, by decide⟩ (fun w h Y => PySem.W.kIn_of Y) ?F ?S ?C
  case F =>
    intro w mg fa h KX G hmg
    have T : ∃ t, My.Txt (L2.KOf KX) t := by
      dsimp only [L2.KOf]                          -- K must stand as «<heap const> w.params» for k_is
      refine' My.txt_mk ?e1 ?e2 ?e3 ..
      (case e1 => PySem.W.k_is)                    -- in the order: a name -> its address -> its object -> its parts
      (case e2 => PySem.W.k_is)
      ..
    obtain ⟨t, T⟩ := T
    have e0 := hmg.symm.trans (PySem.W.mg_of KX G T.law)
    cases e0                                       -- fa is the law's own address
    exact ⟨_, fun s u => .of_eq rfl, fun base kb nb => My.law_fn T kb nb⟩     -- if «.of_eq rfl» comes too early: refine' ⟨_, ?b, fun base kb nb => My.law_fn T kb nb⟩; exact fun s u => .of_eq rfl
  case S => exact fun w H a ns hl hO hS => ..
  case C => exact ..
(the tactic k_is has no namespace: write k_is) -/

/-! SHORT WORDS over the layer: a def of the text, its body, what a loop and a test want. -/
namespace L2
open PySem PySem.Spec PyProof.Rows

/-! ### the text by places -/
/-- the j-th statement of a class's body -/
def inClass (s : Stmt) (j : Nat) : Stmt := match s with
  | .ClassDef _ _ _ body _ _ _ _ _ _ _ => body.getD j (.Pass ⟨0, 0, 0, 0⟩)
  | _ => .Pass ⟨0, 0, 0, 0⟩
def defArgs (s : Stmt) : Arguments := match s with
  | .FunctionDef _ a _ _ _ _ _ _ _ _ => a
  | _ => { posonlyargs := [], args := [], vararg := none, kwonlyargs := [], kw_defaults := [], kwarg := none, defaults := [] }
def defBody (s : Stmt) : List Stmt := match s with
  | .FunctionDef _ _ b _ _ _ _ _ _ _ => b
  | _ => []
def defScope (s : Stmt) : Scope := match s with
  | .FunctionDef _ _ _ _ _ _ sc _ _ _ => sc
  | _ => { kind := .function, names := [], isGenerator := false, isCoroutine := false }

/-! ### no exception leaves a def -/
abbrev CX0 : CXT := fun _ _ _ _ _ _ => False
abbrev E0 : XK := fun _ _ _ => False
theorem pass0 {X : Cx} : Passes CX0 X E0 := fun _ _ _ _ _ _ _ h => h.elim

/-! ### a def (or method) of the text as it stands behind the top -/
structure Fun (K : PySem.W.Frag) (x qual : Str) (st : Stmt) (f : Addr) (fd : FuncData) : Prop where
  ex : ∃ (oc : Value) (od : Option Addr) (kV doc pm : Value) (an : Option Addr) (cdv ct : Value) (osl : Array (Option Value)),
    fd = PySem.W.fnOf x qual (defArgs st) (defBody st) (defScope st) .none kV doc pm an cdv ct ∧ K.lookup f = some ⟨oc, od, .func fd, osl⟩ ∧ PySem.W.codeIn K cdv qual = true
  kp : PySem.W.keepIn K (.ref f) = true
section
variable {P : Program} {w : World} {K : PySem.W.Frag} {mg : Str → Option Value} {base : Heap}
/-- THE RULE for a def: its body as a term of rules, and the reading of that term -/
theorem Fun.ok {x qual : Str} {st : Stmt} {f : Addr} {fd : FuncData} {N ps : List Str} {k : Nat} {sp : Sp} (F : Fun K x qual st f fd) (S : FnScope N ps (defScope st)) (len : ∀ vs H Q E, sp vs H Q E → vs.length = ps.length)
    (hbody : ∀ (cdv : Value) (A : Around) (outer : List Env) (s : Shared) (H : Hp) (vs : List V) (Q : VK) (E : XK), Room k (A.deeper (envOfC qual (defScope st) s.heap.objs.size f cdv)) → sp vs H Q E →
      ∃ t, PSs (cxOf CX0 P w K mg base N qual (defScope st) f cdv A outer s H E).nox (defBody st) t ∧ t { nx := fun _ H' => Q .non H', rt := Q } (start N vs) H) : FnOk P w K mg base CX0 (k + 1) f fd ps sp := by
  obtain ⟨oc, od, kV, doc, pm, an, cdv, ct, osl, rfl, lk, hcd⟩ := F.ex
  refine fn_of lk hcd S len fun A outer s H vs Q E hr hsp => ?_
  obtain ⟨t, h, q⟩ := hbody cdv A outer s H vs Q E hr hsp
  exact ⟨t, h.nox, q⟩
/-- how its arguments bind (no defaults): h is «fun _ _ _ _ _ _ us hl => match us, hl with | [_, _], _ => rfl», one _ a parameter -/
theorem Fun.binds {x qual : Str} {st : Stmt} {f : Addr} {fd : FuncData} {ps : List Str} (F : Fun K x qual st f fd)
    (h : ∀ (kV doc pm : Value) (an : Option Addr) (cdv ct : Value) (us : List Value), us.length = ps.length → bindArgs (PySem.W.fnOf x qual (defArgs st) (defBody st) (defScope st) .none kV doc pm an cdv ct) ⟨us, []⟩ = pure (ps.zip us)) : Binds K fd ps [] := by
  obtain ⟨oc, od, kV, doc, pm, an, cdv, ct, osl, rfl, lk, hcd⟩ := F.ex
  exact .all (h kV doc pm an cdv ct)
theorem fun_mk {x qual : Str} {st : Stmt} {f : Addr} {oc : Value} {od an : Option Addr} {osl : Array (Option Value)} {kV doc pm cdv ct : Value} (l : K.lookup f = some ⟨oc, od, .func (PySem.W.fnOf x qual (defArgs st) (defBody st) (defScope st) .none kV doc pm an cdv ct), osl⟩)
    (c : PySem.W.codeIn K cdv qual = true) (k : PySem.W.keepIn K (.ref f) = true) : Fun K x qual st f (PySem.W.fnOf x qual (defArgs st) (defBody st) (defScope st) .none kV doc pm an cdv ct) := ⟨⟨oc, od, kV, doc, pm, an, cdv, ct, osl, rfl, l, c⟩, k⟩
end
theorem hu_of {A : Around} {k : Nat} (hr : Room k A) : A.units + 1 < cLine := Nat.lt_of_le_of_lt (Nat.add_le_add_left (by decide : 1 ≤ 64) _) hr.units
theorem small1000 {n : Nat} (h : n ≤ 1000) : n < sizeLine := Nat.lt_of_le_of_lt h (by decide)

/-! ### expressions in short: the name that stands in the i-th slot -/
section
variable {X : Cx}
theorem pv (i : Nat) {x : Str} {pos : Pos} (hN : X.N[i]? = some x := by rfl) (hv : Vis X.env.scope x := by first | exact Or.inl rfl | exact Or.inr (Or.inl rfl) | exact Or.inr (Or.inr rfl)) (hd : (x == ("__debug__" : Str)) = false := by decide)
    (hcd : (x == ("__classdict__" : Str)) = false := by decide) : PE X (.Name x pos) (tVar i) := pe_var hN hv hd hcd
/-- len of a dict -/
theorem call_lenD : CallR X (.builtin "len") (fun xs H Q => ∃ a kvs, xs = [V.ref a] ∧ H a = some (.dK kvs) ∧ Q (.int kvs.length) H) := by
  intro pins s σ H xs us Q I r h
  obtain ⟨a, kvs, rfl, ha, q⟩ := h
  obtain ⟨u, rfl, ru⟩ := vals1 r
  cases ru
  exact d_len I (.inl ha) fun t s' I' => ⟨.int kvs.length, H, I', ⟨t, rfl⟩, q⟩
end

/-! ### tests -/
theorem iteF {A B : Prop} (h : B) : if false = true then A else B := by
  rw [if_neg Bool.false_ne_true]
  exact h
theorem iteT {A B : Prop} (h : A) : if true = true then A else B := by
  rw [if_pos rfl]
  exact h
theorem ite2 {c A B : Prop} [Decidable c] (h1 : c → A) (h2 : ¬ c → B) : if c then A else B := by
  by_cases h : c
  · rw [if_pos h]
    exact h1 h
  · rw [if_neg h]
    exact h2 h
theorem iteNS {c A B : Prop} [Decidable c] (hc : c) (h : B) : if (!decide c) = true then A else B := by
  rw [decide_eq_true hc]
  exact iteF h

/-! ### heaps -/
/-- all that was tracked is as it was -/
def Same (H H' : Hp) : Prop := ∀ b o, H b = some o → H' b = some o
theorem Same.refl (H : Hp) : Same H H := fun _ _ h => h
theorem Same.trans {H H1 H2 : Hp} (a : Same H H1) (b : Same H1 H2) : Same H H2 := fun c o h => b c o (a c o h)
theorem Same.free {H H' : Hp} (e : Same H H') {l : Addr} (h : H' l = Option.none) : H l = Option.none := by
  cases q : H l with
  | none => rfl
  | some o =>
    rw [e l o q] at h
    cases h
theorem Same.seq {K : PySem.W.Frag} {H H' : Hp} {a : Addr} {xs : List V} (e : Same H H') (h : SqL K H a xs) : SqL K H' a xs := by
  rcases h with (h | ⟨o, h⟩) | h
  · exact .inl (.inl (e _ _ h))
  · exact .inl (.inr ⟨o, e _ _ h⟩)
  · exact .inr h

/-! ### a dict's pairs: keys that differ -/
section
variable {κ : Type} [DecidableEq κ]
theorem valV_not {kvs : List (κ × V)} {k : κ} (h : valV kvs k = none) : ¬ k ∈ kvs.map (·.1) := by
  intro m
  obtain ⟨p, hp, e⟩ := List.mem_map.mp m
  have q : (kvs.any fun kv => decide (kv.1 = k)) = true := List.any_eq_true.mpr ⟨p, hp, decide_eq_true e⟩
  rw [valV_any, h] at q
  exact absurd q (by simp)
theorem valV_in {kvs : List (κ × V)} {k : κ} {v : V} (h : valV kvs k = some v) : k ∈ kvs.map (·.1) := by
  have q : (kvs.any fun kv => decide (kv.1 = k)) = true := by
    rw [valV_any, h]
    all_goals rfl
  obtain ⟨p, hp, e⟩ := List.any_eq_true.mp q
  exact List.mem_map.mpr ⟨p, hp, of_decide_eq_true e⟩
theorem nd_snoc : ∀ {l : List κ} {k : κ}, l.Nodup → ¬ k ∈ l → (l ++ [k]).Nodup
  | [], k, _, _ => by simp
  | a :: r, k, h, hk => by
    obtain ⟨h1, h2⟩ := List.nodup_cons.mp h
    show (a :: (r ++ [k])).Nodup
    refine List.nodup_cons.mpr ⟨fun m => ?_, nd_snoc h2 fun m => hk (List.mem_cons.mpr (Or.inr m))⟩
    rcases List.mem_append.mp m with q | q
    · exact h1 q
    · exact hk (List.mem_cons.mpr (Or.inl (List.mem_singleton.mp q).symm))
theorem nd_putK {kvs : List (κ × V)} {k : κ} (v : V) (hn : (kvs.map (·.1)).Nodup) (h : valV kvs k = none) : ((putK kvs k v).map (·.1)).Nodup := by
  rw [putK_new v h, List.map_append]
  exact nd_snoc hn (valV_not h)
theorem dropK_pos {p : κ × V} {r : List (κ × V)} {k : κ} (e : p.1 = k) : dropK (p :: r) k = dropK r k := by
  unfold dropK
  rw [List.filter_cons, if_neg (by simp [e])]
theorem dropK_neg {p : κ × V} {r : List (κ × V)} {k : κ} (e : ¬ p.1 = k) : dropK (p :: r) k = p :: dropK r k := by
  unfold dropK
  rw [List.filter_cons, if_pos (by simp [e])]
theorem dropK_no : ∀ {kvs : List (κ × V)} {k : κ}, ¬ k ∈ kvs.map (·.1) → dropK kvs k = kvs
  | [], _, _ => rfl
  | p :: r, k, h => by
    have h' : ¬ k ∈ r.map (·.1) := fun m => by
      obtain ⟨q, hq, e⟩ := List.mem_map.mp m
      exact h (List.mem_map.mpr ⟨q, List.mem_cons.mpr (Or.inr hq), e⟩)
    rw [dropK_neg fun e => h (List.mem_map.mpr ⟨p, List.mem_cons.mpr (Or.inl rfl), e⟩), dropK_no h']
theorem dropK_mem {kvs : List (κ × V)} {k : κ} {p : κ × V} (h : p ∈ dropK kvs k) : p ∈ kvs := (List.mem_filter.mp h).1
theorem nd_dropK : ∀ {kvs : List (κ × V)} {k : κ}, (kvs.map (·.1)).Nodup → ((dropK kvs k).map (·.1)).Nodup
  | [], _, _ => List.nodup_nil
  | p :: r, k, h => by
    have h : (p.1 :: r.map (·.1)).Nodup := h
    obtain ⟨h1, h2⟩ := List.nodup_cons.mp h
    by_cases e : p.1 = k
    · rw [dropK_pos e]
      exact nd_dropK h2
    · rw [dropK_neg e]
      show (p.1 :: (dropK r k).map (·.1)).Nodup
      refine List.nodup_cons.mpr ⟨fun m => h1 ?_, nd_dropK h2⟩
      obtain ⟨q, hq, eq⟩ := List.mem_map.mp m
      exact List.mem_map.mpr ⟨q, dropK_mem hq, eq⟩
theorem dropK_len : ∀ {kvs : List (κ × V)} {k : κ}, (kvs.map (·.1)).Nodup → k ∈ kvs.map (·.1) → (dropK kvs k).length + 1 = kvs.length
  | [], _, _, m => by simp at m
  | p :: r, k, h, m => by
    have h : (p.1 :: r.map (·.1)).Nodup := h
    have m : k = p.1 ∨ k ∈ r.map (·.1) := List.mem_cons.mp m
    obtain ⟨h1, h2⟩ := List.nodup_cons.mp h
    by_cases e : p.1 = k
    · subst e
      rw [dropK_pos rfl, dropK_no h1]
      all_goals rfl
    · have m' : k ∈ r.map (·.1) := m.resolve_left fun z => e z.symm
      have q := dropK_len h2 m'
      rw [dropK_neg e, List.length_cons, List.length_cons]
      omega
end
/-! ### lists -/
theorem at_of {xs : List V} {z : Int} {j : Nat} {v : V} (e : z = (j : Int)) (h : xs[j]? = some v) : atI xs z = some v := by
  rw [e]
  exact atI_nat h
theorem nd_ix {α : Type} {l : List α} (hN : l.Nodup) {i j : Nat} {x : α} (a : l[i]? = some x) (b : l[j]? = some x) : i = j := by
  obtain ⟨h1, e1⟩ := List.getElem?_eq_some_iff.mp a
  obtain ⟨h2, e2⟩ := List.getElem?_eq_some_iff.mp b
  exact (List.getElem_inj hN).mp (e1.trans e2.symm)
theorem sum_set : ∀ {l : List Int} {j : Nat} {z y : Int}, l[j]? = some z → (l.set j y).sum = l.sum - z + y
  | [], j, z, y, h => by simp at h
  | a :: r, 0, z, y, h => by
    have e : a = z := Option.some.inj h
    subst e
    show (y :: r).sum = (a :: r).sum - a + y
    rw [List.sum_cons, List.sum_cons]
    omega
  | a :: r, j + 1, z, y, h => by
    have ih := sum_set (l := r) (j := j) (z := z) (y := y) h
    show (a :: r.set j y).sum = (a :: r).sum - z + y
    rw [List.sum_cons, List.sum_cons, ih]
    omega
theorem sum_take : ∀ {l : List Int} {i : Nat} {z : Int}, l[i]? = some z → (l.take (i + 1)).sum = (l.take i).sum + z
  | [], i, z, h => by simp at h
  | a :: r, 0, z, h => by
    have e : a = z := Option.some.inj h
    subst e
    show ([a] : List Int).sum = ([] : List Int).sum + a
    rw [List.sum_cons]
    exact Int.add_comm _ _
  | a :: r, i + 1, z, h => by
    have ih := sum_take (l := r) (i := i) (z := z) h
    show (a :: r.take (i + 1)).sum = (a :: r.take i).sum + z
    rw [List.sum_cons, List.sum_cons, ih]
    omega
/-- a new instance and its __init__ leave all that was tracked as it was -/
theorem Same.made {H H1 : Hp} {x dx C : Addr} (nx : H x = Option.none) (nd : H dx = Option.none) (k : ∀ b o, (upd (upd H dx (.own x)) x (.ins C dx [])) b = some o → b ≠ x → H1 b = some o) : Same H H1 := fun b o e =>
  k b o (by rw [upd_ne (ne_of_none e nx), upd_ne (ne_of_none e nd)]; exact e) (ne_of_none e nx)
end L2
end

section
set_option Elab.async false
set_option linter.all false
set_option maxRecDepth 100000
set_option maxHeartbeats 2000000
namespace L2
open PySem PySem.Spec PyProof.Rows
open PySem.W (WData Codec OpenSpec Well WellAll ReadsW ReadsAllW)
/-! ### an answer as data -/
mutual
/-- x stands for the datum d, lists and tuples all the way -/
inductive Dw (K : PySem.W.Frag) (H : Hp) : V → WData → Prop
  | non : Dw K H .non .none
  | bl (b : Bool) : Dw K H (.bl b) (.bool b)
  | int (i : Int) : Dw K H (.int i) (.int i)
  | str (x : Str) : Dw K H (.str x) (.str x)
  | byt (b : Array UInt8) : Dw K H (.byt b) (.bytes b.toList)
  | lst {a : Addr} {xs : List V} {ds : List WData} : SqL K H a xs → DwAll K H xs ds → Dw K H (.ref a) (.list ds)
  | tup {a : Addr} {xs : List V} {ds : List WData} : SqT K H a xs → DwAll K H xs ds → Dw K H (.ref a) (.tuple ds)
inductive DwAll (K : PySem.W.Frag) (H : Hp) : List V → List WData → Prop
  | nil : DwAll K H [] []
  | cons {v : V} {vs : List V} {d : WData} {ds : List WData} : Dw K H v d → DwAll K H vs ds → DwAll K H (v :: vs) (d :: ds)
end
theorem dw_ints {K : PySem.W.Frag} {H : Hp} : ∀ ns : List Int, DwAll K H (ns.map V.int) (ns.map WData.int)
  | [] => .nil
  | n :: r => .cons (.int n) (dw_ints r)
theorem ints_dw {K : PySem.W.Frag} {H : Hp} : ∀ (ns : List Int) (xs : List V), DwAll K H xs (ns.map WData.int) → xs = ns.map V.int
  | [], xs, h => by
    cases h
    rfl
  | n :: r, xs, h => by
    cases h with
    | cons h1 h2 =>
      cases h1
      rw [ints_dw r _ h2] <;> rfl
section
variable {P : Program} {w : World} {K : PySem.W.Frag} {H : Hp} {h : Heap} {R : PySem.W.WRecords} {cl : Str → Option Addr}
theorem sqL_at {a : Addr} {xs : List V} (hok : HOk P w H h) (KX : K.In h) (q : SqL K H a xs) : ∃ (its : List Value) (o : Obj) (n : Nat), Vals xs its ∧ h.get? a = some o ∧ o.cls = .type "list" ∧ o.data = .seq its.toArray n := by
  rcases q with q | ⟨o, its, n, e, hc, _, hd, _, hv⟩
  · obtain ⟨_, its, n, hv, e⟩ := (show ObjOk P w H h a (.lst xs) from q.ok hok)
    exact ⟨its, _, n, hv, e, rfl, rfl⟩
  · exact ⟨its.toList, o, n, hv, KX _ _ e, hc, by simp [hd]⟩
theorem sqT_at {a : Addr} {xs : List V} (hok : HOk P w H h) (KX : K.In h) (q : SqT K H a xs) : ∃ (its : List Value) (o : Obj) (n : Nat), Vals xs its ∧ h.get? a = some o ∧ o.cls = .type "tuple" ∧ o.data = .seq its.toArray n := by
  rcases q with q | ⟨o, its, n, e, hc, hd, _, hv⟩
  · obtain ⟨_, its, hv, o, e, hc, n, hd⟩ := (show ObjOk P w H h a (.tup xs) from q.ok hok)
    exact ⟨its, o, n, hv, e, hc, hd⟩
  · exact ⟨its.toList, o, n, hv, KX _ _ e, hc, by simp [hd]⟩
mutual
theorem Dw.reads (hok : HOk P w H h) (KX : K.In h) : ∀ (d : WData) (v : V) (u : Value), Dw K H v d → RelV v u → ∃ as, ReadsW R cl h u d as
  | .none, _, _, x, r => by
    cases x
    cases r
    exact ⟨_, ReadsW.none⟩
  | .bool b, _, _, x, r => by
    cases x
    cases r
    exact ⟨_, ReadsW.bool b⟩
  | .int i, _, _, x, r => by
    cases x
    obtain ⟨t, rfl⟩ := r
    exact ⟨_, ReadsW.int i t⟩
  | .str s, _, _, x, r => by
    cases x
    obtain ⟨t, rfl⟩ := r
    exact ⟨_, ReadsW.str s t⟩
  | .bytes b, _, _, x, r => by
    cases x
    obtain ⟨t, rfl⟩ := r
    exact ⟨_, ReadsW.bytes _ t⟩
  | .list ds, _, _, x, r => by
    cases x with
    | lst hs ha =>
      cases r
      obtain ⟨its, o, n, rv, ho, hc, hd⟩ := sqL_at hok KX hs
      obtain ⟨as, hr⟩ := Dw.readsAll hok KX ds _ its ha rv
      exact ⟨_, ReadsW.list ho hc hd hr⟩
  | .tuple ds, _, _, x, r => by
    cases x with
    | tup hs ha =>
      cases r
      obtain ⟨its, o, n, rv, ho, hc, hd⟩ := sqT_at hok KX hs
      obtain ⟨as, hr⟩ := Dw.readsAll hok KX ds _ its ha rv
      exact ⟨_, ReadsW.tuple ho hc hd hr⟩
  | .float _, _, _, x, _ => by cases x
  | .dict _, _, _, x, _ => by cases x
  | .bytearray _, _, _, x, _ => by cases x
  | .set _, _, _, x, _ => by cases x
  | .frozenset _, _, _, x, _ => by cases x
  | .obj _ _, _, _, x, _ => by cases x
theorem Dw.readsAll (hok : HOk P w H h) (KX : K.In h) : ∀ (ds : List WData) (vs : List V) (us : List Value), DwAll K H vs ds → Vals vs us → ∃ as, ReadsAllW R cl h us ds as
  | [], _, _, x, r => by
    cases x
    cases r
    exact ⟨_, ReadsAllW.nil⟩
  | d :: ds, _, _, x, r => by
    cases x with
    | cons h1 h2 =>
      cases r with
      | cons r1 r2 =>
        obtain ⟨as, q1⟩ := Dw.reads hok KX d _ _ h1 r1
        obtain ⟨bs, q2⟩ := Dw.readsAll hok KX ds _ _ h2 r2
        exact ⟨_, ReadsAllW.cons q1 q2⟩
end
end
/-! ### the arguments -/
mutual
/-- data that a codec tells -/
def plW : WData → Bool
  | .none => true
  | .bool _ => true
  | .int _ => true
  | .str _ => true
  | .bytes _ => true
  | .list xs => plWs xs
  | .tuple xs => plWs xs
  | _ => false
def plWs : List WData → Bool
  | [] => true
  | x :: r => plW x && plWs r
end
theorem plWs_map {α : Type} {f : α → WData} (h : ∀ a, plW (f a) = true) : ∀ l : List α, plWs (l.map f) = true
  | [] => rfl
  | x :: r => by
    show (plW (f x) && plWs (r.map f)) = true
    rw [h x, plWs_map h r] <;> rfl
theorem pl_enc : ∀ (c : Codec) (a : c.denote), plW (c.enc a) = true
  | .unit, _ => rfl
  | .bool, _ => rfl
  | .int _ _, _ => rfl
  | .nat _ _, _ => rfl
  | .u8, _ => rfl
  | .bytes _ _, _ => rfl
  | .text _ _ _ _, _ => rfl
  | .list _ _ c, a => plWs_map (fun x => pl_enc c x) a
  | .pair c d, a => by
    show (plW (c.enc a.1) && (plW (d.enc a.2) && true)) = true
    rw [pl_enc c a.1, pl_enc d a.2] <;> rfl
  | .triple c d e, a => by
    show (plW (c.enc a.1) && (plW (d.enc a.2.1) && (plW (e.enc a.2.2) && true))) = true
    rw [pl_enc c a.1, pl_enc d a.2.1, pl_enc e a.2.2] <;> rfl
  | .option c, none => rfl
  | .option c, some x => pl_enc c x
theorem pl_encAll : ∀ (cs : List Codec) (a : Codec.denoteAll cs), plWs (Codec.encAll cs a) = true
  | [], _ => rfl
  | c :: cs, a => by
    show (plW (c.enc a.1) && plWs (Codec.encAll cs a.2)) = true
    rw [pl_enc c a.1, pl_encAll cs a.2] <;> rfl
theorem weight_mem : ∀ {xs : List WData} {d : WData}, d ∈ xs → d.weight ≤ WData.weightAll xs
  | [], d, h => absurd h (by simp)
  | x :: r, d, h => by
    show d.weight ≤ x.weight + 1 + WData.weightAll r
    rcases List.mem_cons.mp h with e | m
    · rw [e]
      omega
    · have z := weight_mem m
      omega
def toV : Value → V
  | .none => .non
  | .bool b => .bl b
  | .int i _ => .int i
  | .str x _ => .str x
  | .bytes b _ => .byt b
  | .ref a => .ref a
  | _ => .non
/-- a value of the arguments, its objects among A -/
def OkU (A : List Addr) : Value → Prop
  | .none => True
  | .bool _ => True
  | .int _ _ => True
  | .str _ _ => True
  | .bytes _ _ => True
  | .ref a => a ∈ A
  | _ => False
theorem OkU.mono {A B : List Addr} (h : ∀ a ∈ A, a ∈ B) : ∀ {u : Value}, OkU A u → OkU B u := fun {u} x => by
  cases u with
  | ref a => exact h a x
  | none => trivial
  | bool b => trivial
  | int i t => trivial
  | str s t => trivial
  | bytes b t => trivial
  | _ => exact False.elim x
theorem relV_toV {A : List Addr} {u : Value} (x : OkU A u) : RelV (toV u) u := by
  cases u with
  | ref a => rfl
  | none => rfl
  | bool b => rfl
  | int i t => exact ⟨t, rfl⟩
  | str s t => exact ⟨t, rfl⟩
  | bytes b t => exact ⟨t, rfl⟩
  | _ => exact False.elim x
theorem vals_toV {A : List Addr} : ∀ {vs : List Value}, (∀ u ∈ vs, OkU A u) → Vals (vs.map toV) vs
  | [], _ => .nil
  | u :: r, h => .cons (relV_toV (h u (List.mem_cons_self ..))) (vals_toV fun x hx => h x (List.mem_cons_of_mem _ hx))
/-- an object of the arguments -/
def ArgOb (h : Heap) (A : List Addr) (a : Addr) : Prop := ∃ vs : List Value, vs.length ≤ sizeLine ∧ (∀ u ∈ vs, OkU A u) ∧
  (h.get? a = some { cls := .type "list", data := .seq vs.toArray } ∨ h.get? a = some { cls := .type "tuple", data := .seq vs.toArray })
theorem ArgOb.mono {h : Heap} {A B : List Addr} {a : Addr} (k : ∀ a ∈ A, a ∈ B) (x : ArgOb h A a) : ArgOb h B a := by
  obtain ⟨vs, h1, h2, h3⟩ := x
  exact ⟨vs, h1, fun u hu => (h2 u hu).mono k, h3⟩
theorem wellAll_len {P : Params} {h : Heap} : ∀ {vs : List Value} {ds : List WData}, WellAll P h vs ds → vs.length = ds.length
  | _, _, .nil => rfl
  | _, _, .cons _ b => by
    show _ + 1 = _ + 1
    rw [wellAll_len b]
theorem well_list {P : Params} {h : Heap} {v : Value} {ds : List WData} (x : Well P h v (.list ds)) : ∃ (a : Addr) (vs : List Value), v = .ref a ∧ h.get? a = some { cls := .type "list", data := .seq vs.toArray } ∧ WellAll P h vs ds := by
  cases x with
  | list ho hall => exact ⟨_, _, rfl, ho, hall⟩
theorem well_tuple {P : Params} {h : Heap} {v : Value} {ds : List WData} (x : Well P h v (.tuple ds)) : ∃ (a : Addr) (vs : List Value), v = .ref a ∧ h.get? a = some { cls := .type "tuple", data := .seq vs.toArray } ∧ WellAll P h vs ds := by
  cases x with
  | tuple ho hall => exact ⟨_, _, rfl, ho, hall⟩
theorem well_cons {P : Params} {h : Heap} {us : List Value} {d : WData} {ds : List WData} (x : WellAll P h us (d :: ds)) : ∃ (v : Value) (vs : List Value), us = v :: vs ∧ Well P h v d ∧ WellAll P h vs ds := by
  cases x with
  | cons a b => exact ⟨_, _, rfl, a, b⟩
theorem line_of {n : Nat} (h : n ≤ 1048576) : n ≤ sizeLine := Nat.le_trans h (by decide)
section
variable {P : Params} {h : Heap}
mutual
theorem area_one : ∀ (d : WData) (v : Value), Well P h v d → plW d = true → d.weight ≤ 1048576 → ∃ A : List Addr, OkU A v ∧ ∀ a ∈ A, ArgOb h A a
  | .none, _, x, _, _ => by
    cases x
    exact ⟨[], trivial, fun a m => absurd m (by simp)⟩
  | .bool b, _, x, _, _ => by
    cases x
    exact ⟨[], trivial, fun a m => absurd m (by simp)⟩
  | .int i, _, x, _, _ => by
    cases x
    exact ⟨[], trivial, fun a m => absurd m (by simp)⟩
  | .str s, _, x, _, _ => by
    cases x
    exact ⟨[], trivial, fun a m => absurd m (by simp)⟩
  | .bytes b, _, x, _, _ => by
    cases x
    exact ⟨[], trivial, fun a m => absurd m (by simp)⟩
  | .list ds, _, x, p, z => by
    obtain ⟨a, vs, rfl, ho, hall⟩ := well_list x
    have z2 : WData.weightAll ds ≤ 1048576 := z
    obtain ⟨A, h1, h2⟩ := area_all ds _ hall p fun d hd => Nat.le_trans (weight_mem hd) z2
    have k : ∀ b ∈ A, b ∈ a :: A := fun b hb => List.mem_cons_of_mem _ hb
    refine ⟨a :: A, List.mem_cons_self .., fun b hb => ?_⟩
    rcases List.mem_cons.mp hb with e | m
    · rw [e]
      exact ⟨vs, line_of (by rw [wellAll_len hall]; exact Nat.le_trans (PySem.W.length_le_weightAllW ds) z2), fun u hu => (h1 u hu).mono k, .inl ho⟩
    · exact (h2 b m).mono k
  | .tuple ds, _, x, p, z => by
    obtain ⟨a, vs, rfl, ho, hall⟩ := well_tuple x
    have z2 : WData.weightAll ds ≤ 1048576 := z
    obtain ⟨A, h1, h2⟩ := area_all ds _ hall p fun d hd => Nat.le_trans (weight_mem hd) z2
    have k : ∀ b ∈ A, b ∈ a :: A := fun b hb => List.mem_cons_of_mem _ hb
    refine ⟨a :: A, List.mem_cons_self .., fun b hb => ?_⟩
    rcases List.mem_cons.mp hb with e | m
    · rw [e]
      exact ⟨vs, line_of (by rw [wellAll_len hall]; exact Nat.le_trans (PySem.W.length_le_weightAllW ds) z2), fun u hu => (h1 u hu).mono k, .inr ho⟩
    · exact (h2 b m).mono k
  | .float _, _, _, p, _ => Bool.noConfusion (show false = true from p)
  | .dict _, _, _, p, _ => Bool.noConfusion (show false = true from p)
  | .bytearray _, _, _, p, _ => Bool.noConfusion (show false = true from p)
  | .set _, _, _, p, _ => Bool.noConfusion (show false = true from p)
  | .frozenset _, _, _, p, _ => Bool.noConfusion (show false = true from p)
  | .obj _ _, _, _, p, _ => Bool.noConfusion (show false = true from p)
theorem area_all : ∀ (ds : List WData) (vs : List Value), WellAll P h vs ds → plWs ds = true → (∀ d ∈ ds, d.weight ≤ 1048576) → ∃ A : List Addr, (∀ u ∈ vs, OkU A u) ∧ ∀ a ∈ A, ArgOb h A a
  | [], _, x, _, _ => by
    cases x
    exact ⟨[], fun u m => absurd m (by simp), fun a m => absurd m (by simp)⟩
  | d :: ds, _, x, p, z => by
    obtain ⟨v, vs, rfl, x1, x2⟩ := well_cons x
    have q : plW d = true ∧ plWs ds = true := Bool.and_eq_true_iff.mp p
    obtain ⟨A, a1, a2⟩ := area_one d v x1 q.1 (z d (List.mem_cons_self ..))
    obtain ⟨B, b1, b2⟩ := area_all ds vs x2 q.2 fun e he => z e (List.mem_cons_of_mem _ he)
    have kA : ∀ b ∈ A, b ∈ A ++ B := fun b hb => List.mem_append.mpr (.inl hb)
    have kB : ∀ b ∈ B, b ∈ A ++ B := fun b hb => List.mem_append.mpr (.inr hb)
    refine ⟨A ++ B, fun u hu => ?_, fun b hb => ?_⟩
    · rcases List.mem_cons.mp hu with e | m
      · rw [e]
        exact a1.mono kA
      · exact (b1 u m).mono kB
    · rcases List.mem_append.mp hb with m | m
      · exact (a2 b m).mono kA
      · exact (b2 b m).mono kB
end
end
/-- what is tracked of an argument's object -/
def hoOf (o : Obj) : Option HO := match o.data with
  | .seq vs _ => if (o.cls == Value.type "list") = true then some (.frz o (.lst (vs.toList.map toV))) else some (.frz o (.tup (vs.toList.map toV)))
  | _ => none
def argH (K : PySem.W.Frag) (h : Heap) (A : List Addr) : Hp := fun b => if b ∈ A then (if (K.lookup b).isNone = true then (h.get? b).bind hoOf else none) else none
/-- nothing is tracked but what is known to the object -/
def OnlyF (H : Hp) : Prop := ∀ b, H b = none ∨ ∃ o u, H b = some (.frz o u)
theorem hoOf_lst (vs : List Value) : hoOf { cls := .type "list", data := .seq vs.toArray } = some (.frz { cls := .type "list", data := .seq vs.toArray } (.lst (vs.map toV))) := by
  show (if (Value.type "list" == Value.type "list") = true then some (HO.frz { cls := .type "list", data := .seq vs.toArray } (.lst (vs.toArray.toList.map toV))) else some (HO.frz { cls := .type "list", data := .seq vs.toArray } (.tup (vs.toArray.toList.map toV)))) = _
  rw [if_pos (beq_self_eq_true _)]
theorem hoOf_tup (vs : List Value) : hoOf { cls := .type "tuple", data := .seq vs.toArray } = some (.frz { cls := .type "tuple", data := .seq vs.toArray } (.tup (vs.map toV))) := by
  show (if (Value.type "tuple" == Value.type "list") = true then some (HO.frz { cls := .type "tuple", data := .seq vs.toArray } (.lst (vs.toArray.toList.map toV))) else some (HO.frz { cls := .type "tuple", data := .seq vs.toArray } (.tup (vs.toArray.toList.map toV)))) = _
  rw [if_neg (by decide)]
section
variable {P : Program} {w : World} {K : PySem.W.Frag} {h : Heap} {A : List Addr}
theorem argH_at {b : Addr} {o : Obj} (hb : b ∈ A) (hk : K.lookup b = none) (e : h.get? b = some o) : argH K h A b = hoOf o := by
  unfold argH
  rw [if_pos hb, hk, if_pos (show (none : Option Obj).isNone = true from rfl), e] <;> rfl
theorem of_argH {b : Addr} {u : HO} (q : argH K h A b = some u) : b ∈ A ∧ K.lookup b = none := by
  unfold argH at q
  by_cases hb : b ∈ A
  · rw [if_pos hb] at q
    cases hk : K.lookup b with
    | none => exact ⟨hb, rfl⟩
    | some o =>
      rw [hk, if_neg (by simp)] at q
      cases q
  · rw [if_neg hb] at q
    cases q
/-- what stands tracked -/
theorem argH_is (ar : ∀ a ∈ A, ArgOb h A a) {b : Addr} {u : HO} (q : argH K h A b = some u) : K.lookup b = none ∧ ∃ vs : List Value, vs.length ≤ sizeLine ∧ (∀ u ∈ vs, OkU A u) ∧
    ((h.get? b = some { cls := .type "list", data := .seq vs.toArray } ∧ u = .frz { cls := .type "list", data := .seq vs.toArray } (.lst (vs.map toV))) ∨
     (h.get? b = some { cls := .type "tuple", data := .seq vs.toArray } ∧ u = .frz { cls := .type "tuple", data := .seq vs.toArray } (.tup (vs.map toV)))) := by
  obtain ⟨hb, hk⟩ := of_argH q
  obtain ⟨vs, h1, h2, h3⟩ := ar b hb
  refine ⟨hk, vs, h1, h2, ?_⟩
  rcases h3 with e | e
  · rw [argH_at hb hk e, hoOf_lst] at q
    exact .inl ⟨e, (Option.some.inj q).symm⟩
  · rw [argH_at hb hk e, hoOf_tup] at q
    exact .inr ⟨e, (Option.some.inj q).symm⟩
theorem argH_only (ar : ∀ a ∈ A, ArgOb h A a) : OnlyF (argH K h A) := fun b => by
  cases q : argH K h A b with
  | none => exact .inl rfl
  | some u =>
    obtain ⟨_, vs, _, _, ⟨_, e⟩ | ⟨_, e⟩⟩ := argH_is ar q
    · exact .inr ⟨_, _, by rw [e]⟩
    · exact .inr ⟨_, _, by rw [e]⟩
theorem argH_ok (ar : ∀ a ∈ A, ArgOb h A a) : HOk P w (argH K h A) h := fun b u q => by
  obtain ⟨_, vs, h1, h2, ⟨e, rfl⟩ | ⟨e, rfl⟩⟩ := argH_is ar q
  · exact ⟨e, by rw [List.length_map]; exact h1, vs, _, vals_toV h2, e⟩
  · exact ⟨e, by rw [List.length_map]; exact h1, vs, vals_toV h2, _, e, rfl, _, rfl⟩
theorem seq_inj {c c' : Value} {vs us : List Value} (e : (some { cls := c, data := .seq vs.toArray } : Option Obj) = some { cls := c', data := .seq us.toArray }) : c = c' ∧ vs = us := by
  have e1 := Option.some.inj e
  have e2 : c = c' := congrArg Obj.cls e1
  have e3 : Data.seq vs.toArray = Data.seq us.toArray := congrArg Obj.data e1
  injection e3 with e4
  refine ⟨e2, ?_⟩
  have e5 := congrArg Array.toList e4
  simpa using e5
/-- a list argument -/
theorem argL (KX : K.In h) (ar : ∀ a ∈ A, ArgOb h A a) {a : Addr} {vs : List Value} (ha : a ∈ A) (e : h.get? a = some { cls := .type "list", data := .seq vs.toArray }) : (∀ u ∈ vs, OkU A u) ∧ SqL K (argH K h A) a (vs.map toV) := by
  obtain ⟨us, h1, h2, h3⟩ := ar a ha
  have hu : us = vs := by
    rcases h3 with q | q
    · rw [e] at q
      exact (seq_inj q).2.symm
    · rw [e] at q
      exact absurd (Value.type.inj (seq_inj q).1) (by decide)
  subst hu
  refine ⟨h2, ?_⟩
  cases hk : K.lookup a with
  | none => exact .inl (.inr ⟨_, by rw [argH_at ha hk e, hoOf_lst]⟩)
  | some o =>
    have e2 := KX a o hk
    rw [e] at e2
    obtain rfl := Option.some.inj e2
    exact .inr ⟨_, us.toArray, _, hk, rfl, rfl, rfl, by rw [List.size_toArray]; exact h1, by simpa using vals_toV h2⟩
theorem argT (KX : K.In h) (ar : ∀ a ∈ A, ArgOb h A a) {a : Addr} {vs : List Value} (ha : a ∈ A) (e : h.get? a = some { cls := .type "tuple", data := .seq vs.toArray }) : (∀ u ∈ vs, OkU A u) ∧ SqT K (argH K h A) a (vs.map toV) := by
  obtain ⟨us, h1, h2, h3⟩ := ar a ha
  have hu : us = vs := by
    rcases h3 with q | q
    · rw [e] at q
      exact absurd (Value.type.inj (seq_inj q).1) (by decide)
    · rw [e] at q
      exact (seq_inj q).2.symm
  subst hu
  refine ⟨h2, ?_⟩
  cases hk : K.lookup a with
  | none => exact .inl (.inr ⟨_, by rw [argH_at ha hk e, hoOf_tup]⟩)
  | some o =>
    have e2 := KX a o hk
    rw [e] at e2
    obtain rfl := Option.some.inj e2
    exact .inr ⟨_, us.toArray, _, hk, rfl, rfl, by rw [List.size_toArray]; exact h1, by simpa using vals_toV h2⟩
mutual
theorem dw_one {Pm : Params} (KX : K.In h) (ar : ∀ a ∈ A, ArgOb h A a) : ∀ (d : WData) (v : Value), Well Pm h v d → plW d = true → OkU A v → Dw K (argH K h A) (toV v) d
  | .none, _, x, _, _ => by
    cases x
    exact .non
  | .bool b, _, x, _, _ => by
    cases x
    exact .bl b
  | .int i, _, x, _, _ => by
    cases x
    exact .int i
  | .str s, _, x, _, _ => by
    cases x
    exact .str s
  | .bytes b, _, x, _, _ => by
    cases x
    have z := Dw.byt (K := K) (H := argH K h A) b.toArray
    exact z
  | .list ds, _, x, p, hu => by
    obtain ⟨a, vs, rfl, ho, hall⟩ := well_list x
    obtain ⟨h2, hs⟩ := argL KX ar hu ho
    exact .lst hs (dw_all KX ar ds _ hall p h2)
  | .tuple ds, _, x, p, hu => by
    obtain ⟨a, vs, rfl, ho, hall⟩ := well_tuple x
    obtain ⟨h2, hs⟩ := argT KX ar hu ho
    exact .tup hs (dw_all KX ar ds _ hall p h2)
  | .float _, _, _, p, _ => Bool.noConfusion (show false = true from p)
  | .dict _, _, _, p, _ => Bool.noConfusion (show false = true from p)
  | .bytearray _, _, _, p, _ => Bool.noConfusion (show false = true from p)
  | .set _, _, _, p, _ => Bool.noConfusion (show false = true from p)
  | .frozenset _, _, _, p, _ => Bool.noConfusion (show false = true from p)
  | .obj _ _, _, _, p, _ => Bool.noConfusion (show false = true from p)
theorem dw_all {Pm : Params} (KX : K.In h) (ar : ∀ a ∈ A, ArgOb h A a) : ∀ (ds : List WData) (vs : List Value), WellAll Pm h vs ds → plWs ds = true → (∀ u ∈ vs, OkU A u) → DwAll K (argH K h A) (vs.map toV) ds
  | [], _, x, _, _ => by
    cases x
    exact .nil
  | d :: ds, _, x, p, hu => by
    obtain ⟨v, vs, rfl, x1, x2⟩ := well_cons x
    have q : plW d = true ∧ plWs ds = true := Bool.and_eq_true_iff.mp p
    exact .cons (dw_one KX ar d v x1 q.1 (hu _ (List.mem_cons_self ..))) (dw_all KX ar ds vs x2 q.2 fun u m => hu u (List.mem_cons_of_mem _ m))
end
end
/-! ### the call -/
theorem spec_call {P : Program} {w : World} {K : PySem.W.Frag} {mg mb : Str → Option Value} {CX : CXT} {k : Nat} {fa : Addr} {fd : FuncData} {ps : List Str} {sp : Sp} {s₁ : Shared} {vals : List Value} {ds : List WData} {R : PySem.W.WRecords} {cl : Str → Option Addr} {d0 : WData}
    (KX : K.In s₁.heap) (hns : s₁.heap.Ns mainGlobals mg) (hb : s₁.heap.Ns builtinsNs mb) (hbb : ∀ x : Str, x ≠ "__name__" → mb x = bootBuiltins x) (hlim : s₁.heap.NoLimit) (hg : s₁.gens = #[])
    (hwl : WellAll w.params s₁.heap vals ds) (hpl : plWs ds = true) (hwt : ∀ d ∈ ds, d.weight ≤ 1048576) (hr : Room k callerA)
    (F : ∀ base : Heap, K.In base → base.Ns mainGlobals mg → FnOk P w K mg base CX k fa fd ps sp) (hbind : ∀ (s : Shared) (us : List Value), us.length = ps.length → BindsTo s fd ⟨us, []⟩ (ps.zip us)) (hlen : ds.length = ps.length)
    (hsp : ∀ (H : Hp) (xs : List V), OnlyF H → DwAll K H xs ds → sp xs H (fun v H' => Dw K H' v d0) fun _ _ _ => False)
    (hCX : ∀ H e s', CX [] H s₁ (fun _ _ _ => False) e s' → False) :
    codeAny (model P w) callerA (.call (.ref fa) ⟨vals, []⟩) (fun r s' => ∃ u as, r = .ok (.ret u) ∧ ReadsW R cl s'.heap u d0 as ∧ OldK s₁.heap s'.heap ∧ s'.os = s₁.os ∧ AllBare s'.gens) s₁ := by
  obtain ⟨A, ho, ar⟩ := area_all ds vals hwl hpl hwt
  have hO : OnlyF (argH K s₁.heap A) := argH_only ar
  have hok : HOk P w (argH K s₁.heap A) s₁.heap := argH_ok ar
  have hS := dw_all KX ar ds vals hwl hpl ho
  have hV := vals_toV ho
  have hK : ∀ b u, argH K s₁.heap A b = some u → K.lookup b = none := fun b u q => (argH_is ar q).1
  have noA : ∀ {b : Addr} {o : Obj} {es : Array DictEntry} {ep : Nat}, s₁.heap.get? b = some o → o.data = .dict es ep → argH K s₁.heap A b = none := fun {b o es ep} e d => by
    cases q : argH K s₁.heap A b with
    | none => rfl
    | some u =>
      obtain ⟨_, vs, _, _, ⟨e2, _⟩ | ⟨e2, _⟩⟩ := argH_is ar q
      · rw [e2] at e
        cases e
        have d' : Data.seq vs.toArray _ = Data.dict es ep := d
        cases d'
      · rw [e2] at e
        cases e
        have d' : Data.seq vs.toArray _ = Data.dict es ep := d
        cases d'
  generalize argH K s₁.heap A = H at hO hok hS hK noA
  have base_of : ∀ {b : Addr} {o : Obj}, s₁.heap.get? b = some o → H b = none → (hidT s₁.heap H).get? b = some o := fun e n => hidT_get e n
  have nsK : ∀ {b : Addr} {m : Str → Option Value}, s₁.heap.Ns b m → (hidT s₁.heap H).Ns b m := fun {b m} ⟨o, es, ep, e, d, r⟩ => ⟨o, es, ep, base_of e (noA e d), d, r⟩
  have nK : ∀ b o, K.lookup b = some o → H b = none := fun b o e => by
    cases q : H b with
    | none => rfl
    | some u =>
      rw [hK b u q] at e
      cases e
  have hKb : K.In (hidT s₁.heap H) := fun b o e => base_of (KX b o e) (nK b o e)
  have hM : Mod K mg (hidT s₁.heap H) := ⟨hKb, nsK hns, ⟨mb, nsK hb, hbb⟩, let ⟨mc, h1, h2⟩ := hlim; ⟨mc, nsK h1, h2⟩⟩
  have e0 : Env0 P w K mg (hidT s₁.heap H) callerA [] s₁ H := ⟨rfl, hM, fun b o e => of_hidT e, Nat.le_of_eq (hidT_size _ _), trivial, fun b hb => absurd (show b ∈ ([] : List Addr) from hb) (by simp), hok, .of_eq hg⟩
  have hl : vals.length = ps.length := by rw [wellAll_len hwl]; exact hlen
  refine codeAny_mono ((F _ hKb (nsK hns)).run callerA [] s₁ H ⟨vals, []⟩ vals (vals.map toV) _ _ hr e0 (hbind s₁ vals hl) hV (hsp H _ hO hS)) fun r s' x => ?_
  cases r with
  | error e => exact (hCX H e s' x).elim
  | ok fl =>
    cases fl with
    | next => exact False.elim x
    | brk => exact False.elim x
    | cont => exact False.elim x
    | ret u =>
      obtain ⟨v, H', os, bare, un, hok', r', q⟩ := x
      have kept : ∀ b o, s₁.heap.get? b = some o → s'.heap.get? b = some o := fun b o e => by
        cases q2 : H b with
        | none => exact un.keep b o e q2 (by intro z; exact absurd (show b ∈ ([] : List Addr) from z) (by simp)) (by simp)
        | some u2 =>
          rcases hO b with z | ⟨ob, u3, z⟩
          · rw [q2] at z
            cases z
          · have z2 := un.frzs b ob _ z
            obtain ⟨e1, _⟩ := hok b _ z
            obtain ⟨e2, _⟩ := hok' b _ z2
            rw [e] at e1
            cases e1
            exact e2
      have KX' : K.In s'.heap := fun b o e => kept b o (KX b o e)
      obtain ⟨as, hrd⟩ := Dw.reads (R := R) (cl := cl) hok' KX' d0 v u q r'
      exact ⟨u, as, rfl, hrd, OldK.of_keep kept, os, bare⟩
/-! ### the row -/
theorem layable_weight {ds : List WData} (h : WData.layableAll ds = true) : ∀ d ∈ ds, d.weight ≤ 1048576 := fun d hd =>
  (PySem.W.layableW_iff.mp (List.all_eq_true.mp h d hd)).2.2
theorem encAll_len : ∀ (cs : List Codec) (a : Codec.denoteAll cs), (Codec.encAll cs a).length = cs.length
  | [], _ => rfl
  | c :: cs, a => by
    show (Codec.encAll cs a.2).length + 1 = cs.length + 1
    rw [encAll_len cs a.2]
/-- the goal that k_headS leaves (case hc), from the promise of the row's def: whatever the arguments that the codecs let and the row asks for, the def gives what stands for enc (f ..) -/
theorem walk_spec {r : OpenSpec} {k : Nat} {q : Program} {loose : List Str} {XP : (Str → Option Value) → Heap → Prop} {YP : World → Heap → Prop} {d : DefRec} {K : Params → PySem.W.Frag} {CX : World → CXT} {ps : List Str} {sp : World → Sp}
    (hwell : r.wellSaid = true) (hdf : d.params.defaults = []) (hlen : r.args.length = ps.length) (hr : Room k callerA)
    (hY : ∀ (w : World) (h : Heap), YP w h → (K w.params).In h)
    (F : ∀ (w : World) (mg : Str → Option Value) (fa : Addr) (h : Heap), YP w h → (K w.params).In h → h.Ns mainGlobals mg → mg d.name = some (.ref fa) →
      ∃ fd : FuncData, (∀ (s : Shared) (us : List Value), us.length = ps.length → BindsTo s fd ⟨us, []⟩ (ps.zip us)) ∧
        ∀ base : Heap, (K w.params).In base → base.Ns mainGlobals mg → FnOk r.prog w (K w.params) mg base (CX w) k fa fd ps (sp w))
    (hsp : ∀ (w : World) (H : Hp) (xs : List V) (a : Codec.denoteAll r.args), OnlyF H → Codec.withinAll r.args a = true → Codec.app r.args r.asked a = true → DwAll (K w.params) H xs (Codec.encAll r.args a) →
      sp w xs H (fun v H' => Dw (K w.params) H' v (r.ret.enc (Codec.app r.args r.f a))) fun _ _ _ => False)
    (hCX : ∀ (w : World) (H : Hp) (s : Shared) (e : Value) (s' : Shared), CX w [] H s (fun _ _ _ => False) e s' → False) :
    PySem.W.WalkOS q loose XP YP r d [] (fun f vs => PySem.call f vs) := by
  intro w s_0 s₁ mg mb G Y fa o pm cd doc dV kV ho hd hcd hD hmg hg args vals as hpre hlay hrd hwl hlo
  obtain ⟨a, e1, e2⟩ := PySem.W.os_pre_some hpre
  obtain ⟨e3, hwi⟩ := Codec.encAll_of_decAll r.args args a e1
  subst e3
  have KX := hY w _ Y
  obtain ⟨fd, hb, hF⟩ := F w mg fa _ Y KX G.T.g hmg
  refine PySem.W.enter_call (codeAny_mono (spec_call (R := []) (cl := classAt s_0.heap) (d0 := r.ret.enc (Codec.app r.args r.f a)) KX G.T.g G.T.b G.T.builtins G.T.nolimit hg hwl (pl_encAll _ _) (layable_weight hlay) hr hF hb (by rw [encAll_len]; exact hlen)
    (fun H xs hO hS => hsp w H xs a hO hwi e2 hS) fun H e s' => hCX w H s₁ e s') fun r' s' hq => ?_)
  obtain ⟨u, as', rfl, h1, h2, h3, h4⟩ := hq
  exact ⟨.inl ⟨u, _, as', rfl, fun _ => rfl, h1, (OpenSpec.post_iff hwell hwi _ _).mpr rfl, fun z => Bool.noConfusion (show false = true from z)⟩, h2, h3, h4⟩
/-- the same where the promise hangs on the written part alone -/
theorem walk_specK {r : OpenSpec} {k : Nat} {q : Program} {loose : List Str} {XP : (Str → Option Value) → Heap → Prop} {YP : World → Heap → Prop} {d : DefRec} {K : Params → PySem.W.Frag} {CX : CXT} {ps : List Str} {sp : PySem.W.Frag → Sp}
    (hwell : r.wellSaid = true) (hdf : d.params.defaults = []) (hlen : r.args.length = ps.length) (hr : Room k callerA)
    (hY : ∀ (w : World) (h : Heap), YP w h → (K w.params).In h)
    (F : ∀ (w : World) (mg : Str → Option Value) (fa : Addr) (h : Heap), YP w h → (K w.params).In h → h.Ns mainGlobals mg → mg d.name = some (.ref fa) →
      ∃ fd : FuncData, (∀ (s : Shared) (us : List Value), us.length = ps.length → BindsTo s fd ⟨us, []⟩ (ps.zip us)) ∧
        ∀ base : Heap, (K w.params).In base → base.Ns mainGlobals mg → FnOk r.prog w (K w.params) mg base CX k fa fd ps (sp (K w.params)))
    (hsp : ∀ (K : PySem.W.Frag) (H : Hp) (xs : List V) (a : Codec.denoteAll r.args), OnlyF H → Codec.withinAll r.args a = true → Codec.app r.args r.asked a = true → DwAll K H xs (Codec.encAll r.args a) →
      sp K xs H (fun v H' => Dw K H' v (r.ret.enc (Codec.app r.args r.f a))) fun _ _ _ => False)
    (hCX : ∀ (H : Hp) (s : Shared) (e : Value) (s' : Shared), CX [] H s (fun _ _ _ => False) e s' → False) :
    PySem.W.WalkOS q loose XP YP r d [] (fun f vs => PySem.call f vs) :=
  walk_spec (K := K) (CX := fun _ => CX) (sp := fun w => sp (K w.params)) hwell hdf hlen hr hY F (fun w H xs a h1 h2 h3 h4 => hsp (K w.params) H xs a h1 h2 h3 h4) fun _ H s e s' => hCX H s e s'
end L2
end

section
set_option Elab.async false
set_option linter.all false
set_option maxRecDepth 100000
set_option maxHeartbeats 2000000
namespace L2
open PySem PySem.Spec PyProof.Rows
/-! ### a call of what a local name holds -/
def tCallV (X : Cx) (CX : CXT) (k i : Nat) (E : XK) (t : TA) : TE := fun σ H Q => ∃ (f : Addr) (fd : FuncData) (ps : List Str) (sp : Sp), σ[i]? = some (some (V.ref f)) ∧
  FnOk X.prog X.w X.K X.mg X.base CX k f fd ps sp ∧ PySem.W.keepIn X.K (.ref f) = true ∧ Binds X.K fd ps [] ∧ t σ H fun vs H1 => sp vs H1 Q E
section
variable {X : Cx} {CX : CXT} {k : Nat} {E : XK} {x : Str} {p pos : Pos} {e : Expr} {es : List Expr} {t : TA}
theorem pe_callV (i : Nat) (hN : X.N[i]? = some x) (hv : Vis X.env.scope x) (hr : Room k X.A) (hx : Passes CX X E) (ha : PA X (e :: es) t)
    (hd : (x == ("__debug__" : Str)) = false := by decide) (hcd : (x == ("__classdict__" : Str)) = false := by decide)
    (he : starEach (e :: es) X.env = (false, eval e X.env) :: starEach es X.env := by rfl) (hpl : (backTo pos (starEach es X.env)).any (·.1) = false := by rfl) :
    PE X (.Call (.Name x p) (e :: es) [] pos) (tCallV X CX k i E t) := by
  intro pins s σ H Q I h
  obtain ⟨f, fd, ps, sp, ei, F, hk, hb, h⟩ := h
  refine wpAny_Call_Name_kw (thn (pe_var hN hv hd hcd pins s σ H (fun v H' => v = .ref f ∧ H' = H) I ⟨_, ei, rfl, rfl⟩) fun u s1 ⟨v, H1, I1, r1, e1, e2⟩ => ?_)
  subst e1
  subst e2
  cases (show u = Value.ref f from r1)
  refine PySem.W.callWith_K (h₀ := X.base) I.ok.mod.kin hk (thn (ha pos pins s1 σ H1 _ I1 h) fun us s2 ⟨vs, H2, I2, r, q⟩ => ⟨I2.kIn, ?_⟩) he hpl
  exact run_fn (dvs := []) (ds := []) F hr hb .nil hx I2 r (by rw [List.append_nil]; exact q)
end
/-! ### a dict of the module's top, by whole numbers -/
def numLook : List DictEntry → List (Int × Value) → Bool
  | [], [] => true
  | e :: es, (i, v) :: D => (match e.key with | .int j _ => j == i | _ => false) && e.hash == hashInt i && numLook es D
  | _, _ => false
inductive NumRows : List DictEntry → List (Int × Value) → Prop
  | nil : NumRows [] []
  | cons {i : Int} {t : Tok} {v : Value} {es : List DictEntry} {D : List (Int × Value)} : NumRows es D → NumRows (⟨hashInt i, .int i t, v⟩ :: es) ((i, v) :: D)
def KDict (K : PySem.W.Frag) (a : Addr) (D : List (Int × Value)) : Prop := ∃ es ep, K.lookup a = some ⟨.type "dict", none, .dict es ep, #[]⟩ ∧ NumRows es.toList D ∧ (D.map (·.1)).Nodup
theorem NumRows.pairs (prog : Program) (w : World) {es : List DictEntry} {D : List (Int × Value)} (h : NumRows es D) :
    (∀ e ∈ es, ∃ k, (PySem.intKind prog w).is k e.key = true ∧ e.hash = (PySem.intKind prog w).hash k) ∧ Pairs (PySem.intKind prog w) es D := by
  induction h with
  | nil => exact ⟨fun _ h => (nomatch h), .nil⟩
  | @cons i t v es D _ ih =>
    have hi : (PySem.intKind prog w).is i (.int i t) = true := by
      show Value.isInt i (.int i t) = true
      simp [Value.isInt]
    refine ⟨fun e he => ?_, .cons hi rfl ih.2⟩
    rcases List.mem_cons.mp he with rfl | he
    · exact ⟨i, hi, rfl⟩
    · exact ih.1 e he
theorem KDict.dictOf {K : PySem.W.Frag} {a : Addr} {D : List (Int × Value)} (h : KDict K a D) (prog : Program) (w : World) {hp : Heap} (X : K.In hp) : hp.DictOf (PySem.intKind prog w) a D := by
  obtain ⟨es, ep, hl, hr, hn⟩ := h
  obtain ⟨h1, h2⟩ := hr.pairs prog w
  exact ⟨_, es, ep, X _ _ hl, ⟨rfl, rfl, rfl⟩, rfl, fun e he => h1 e (Array.mem_toList_iff.mpr he), h2, hn⟩
def tKGet (K : PySem.W.Frag) (td ty : TE) : TE := fun σ H Q => td σ H fun x H1 => ty σ H1 fun y H2 => ∃ (a : Addr) (D : List (Int × Value)) (n : Int) (u : Value) (v : V), x = .ref a ∧ y = .int n ∧ KDict K a D ∧ valueAt D n = some u ∧ RelV v u ∧ Q v H2
theorem pe_kget {X : Cx} {o i : Expr} {pos : Pos} {td ty : TE} (ho : PE X o td) (hi : PE X i ty) (hs : NoSl i) : PE X (.Subscript o i pos) (tKGet X.K td ty) := by
  intro pins s σ H Q I h
  refine subD_of PySem.F.slot_dict_getitem.lookup hs (thn (ho pins s σ H _ I h) fun u s1 ⟨x, H1, I1, rx, q1⟩ => thn (hi pins s1 σ H1 _ I1 q1) fun iv s2 ⟨y, H2, I2, ry, a, D, n, u', v, ex, ey, kd, hv, rv, q2⟩ => ?_)
  subst ex
  subst ey
  obtain rfl : u = Value.ref a := rx
  obtain ⟨t, rfl⟩ := (show ∃ t, iv = Value.int n t from ry)
  have dd := kd.dictOf X.prog X.w I2.kIn
  exact ⟨dd.mapOf.typeIs, wpAny_getItem_of (knd := PySem.intKind X.prog X.w) (k := n) (intKind_is _ _ _ _) dd.mapOf hv ⟨v, H2, I2.tok _, rv, q2⟩⟩
/-! ### isinstance with an own class -/
theorem call_isi {X : Cx} : CallR X (.builtin "isinstance") (fun xs H Q => ∃ (x : V) (C : Addr) (t : Value) (b : Bool), xs = [x, .ref C] ∧ TyOf X.K H x t ∧ PySem.W.kitOne X.K t (.ref C) = some b ∧ Q (.bl b) H) := by
  intro pins s σ H xs us Q I r h
  obtain ⟨x, C, t, b, rfl, ty, e, q⟩ := h
  obtain ⟨u, w', rfl, r1, r2⟩ := vals2 r
  cases (show w' = Value.ref C from r2)
  exact isinst_ok I r1 ty e fun tk => ⟨.bl b, H, I.tok _, rfl, q⟩
/-! ### a set of whole numbers from a list; its length -/
def firstOnes (ns : List Int) : List Int := ns.foldl step_dedup []
theorem firstMet_all (ns : List Int) : firstMet (fun i => ns.getD i 0) ns.length = firstOnes ns := by
  unfold firstMet firstOnes
  congr 1
  apply List.ext_getElem
  · simp
  · intro i h1 h2
    simp [List.getD_eq_getElem?_getD, List.getElem?_eq_getElem h2]
theorem call_set_ints {X : Cx} (hc : X.A.handled = none) : CallR X (.type "set") (fun xs H Q => ∃ (p : Addr) (ns : List Int), xs = [.ref p] ∧ SqL X.K H p (ns.map V.int) ∧ ns.length + 1 < scanBound ∧
    ∀ l, H l = none → Q (.ref l) (upd H l (.set (fun k => (firstOnes ns).any (· == k)) (firstOnes ns).length))) := by
  intro pins s σ H xs us Q I r h
  obtain ⟨p, ns, rfl, hq, hb, q⟩ := h
  obtain ⟨u, rfl, rx⟩ := vals1 r
  cases (show u = Value.ref p from rx)
  obtain ⟨its, r', pl, hz⟩ := I.list hq
  have hi : IntsAre its ns := r'.ints
  have hlen : its.length = ns.length := by rw [← r'.length, List.length_map]
  refine call_set_list hc pl.isList (ns := ns) hi (by rw [List.size_toArray, hlen]; exact hb) fun h' tk hS kp => ?_
  have e0 : firstMet (fun i => ns.getD i 0) its.toArray.size = firstOnes ns := by
    rw [show its.toArray.size = ns.length from hlen]
    exact firstMet_all ns
  rw [e0] at hS
  refine ⟨.ref s.heap.objs.size, upd H s.heap.objs.size _, I.laid (t' := tk) (fun b o e => kp b o (Heap.lt_size e) e) (Nat.le_refl _) ?_, rfl, q _ (I.hok.fresh (Nat.le_refl _))⟩
  exact hS
theorem call_len_setI {X : Cx} : CallR X (.builtin "len") (fun xs H Q => ∃ (p : Addr) (S : Int → Bool) (n : Nat), xs = [.ref p] ∧ H p = some (.set S n) ∧ (n : Int) < 2 ^ 63 ∧ Q (.int n) H) := by
  intro pins s σ H xs us Q I r h
  obtain ⟨p, S, n, rfl, hp, hn, q⟩ := h
  obtain ⟨u, rfl, rx⟩ := vals1 r
  cases (show u = Value.ref p from rx)
  have hS : s.heap.SetOf (intKind X.prog X.w) p S n := (show ObjOk X.prog X.w H s.heap p (.set S n) from I.hok p _ hp)
  obtain ⟨o, es, ep, t, h1, h2, h3, _, _, _, h5, rfl⟩ := hS
  exact call_len_set h1 h2 h3 h5 hn ⟨.int es.size, H, I.tok _, ⟨_, rfl⟩, q⟩
end L2
namespace L2
open PySem PySem.Spec PyProof.Rows
/-! ### a method of an object whose class is known at the turn alone -/
def tMeth0V (X : Cx) (CX : CXT) (k : Nat) (m : Str) (E : XK) (ta : TE) : TE := fun σ H Q => ta σ H fun x H1 => ∃ (a C dx : Addr) (fs : List (Str × V)) (f : Addr) (fd : FuncData) (ps : List Str) (sp : Sp), x = .ref a ∧ H1 a = some (.ins C dx fs) ∧ Cls X.K C ∧ Meth X.K C m f ∧
  FnOk X.prog X.w X.K X.mg X.base CX k f fd ps sp ∧ Binds X.K fd ps [] ∧ fs.lookup m = none ∧ sp [x] H1 Q E
theorem pe_meth0V {X : Cx} {CX : CXT} {k : Nat} {E : XK} {m : Str} {pos apos : Pos} {o : Expr} {ta : TE} {pl : Sem Bool} (he : PE X o ta) (hr : Room k X.A) (hx : Passes CX X E)
    (ht : eval (.Call (.Attribute o m apos) [] [] pos) X.env = (do
      let ov ← eval o X.env
      standAt apos.atName
      let (f, first) ← holding [ov] (getMethod ov m pl)
      callWith pos f first (backTo pos (starEach [] X.env)) (backToKw pos (keywordEach [] X.env))) := by rfl) :
    PE X (.Call (.Attribute o m apos) [] [] pos) (tMeth0V X CX k m E ta) := by
  intro pins s σ H Q I h
  refine PySem.W.methodCall_KW (pl := pl) (thn (he pins s σ H _ I h) fun u s1 ⟨x, H1, I1, rx, a, C, dx, fs, f, fd, ps, sp, ex, ea, c, hm, F, hb, l, q⟩ => ?_) ht
  subst ex
  obtain rfl : u = Value.ref a := rx
  refine getmeth_ok I1 ea c hm l ?_
  exact PySem.W.callWith_K0 (first := [.ref a]) I1.kIn hm.kp (run_fn (us := [.ref a]) (vs := [.ref a]) (dvs := []) (ds := []) F hr hb .nil hx I1 (.cons rfl .nil) q)
end L2
end

section
set_option Elab.async false
set_option linter.all false
set_option maxRecDepth 100000
set_option maxHeartbeats 2000000
namespace L2
open PySem PySem.Spec PyProof.Rows
/-! ### a list is extended by a tuple -/
def rExtendT (K : PySem.W.Frag) : V → List V → Hp → VK → Prop := fun x vs H Q => ∃ l b xs zs, x = .ref l ∧ vs = [.ref b] ∧ H l = some (.lst xs) ∧ SqT K H b zs ∧ xs.length + zs.length ≤ sizeLine ∧ Q .non (upd H l (.lst (xs ++ zs)))
theorem tup_exact {h : Heap} {a : Addr} {its : List Value} (t : IsTup h a its.toArray) : ∃ o n, h.get? a = some o ∧ o.cls = .type "tuple" ∧ o.data = .seq its.toArray n := by
  obtain ⟨o, e, c, n, d⟩ := t
  exact ⟨o, n, e, c, d⟩
theorem list_extend_tup (l b : Addr) (xs ys : Array Value) (n m : Nat) (dd : Option Addr) (sl : Array (Option Value)) (z0 : ¬(!xs.isEmpty && Builtin.List.listTooLong (xs.size + ys.size)) = true) (z1 : xs.size ≤ sizeLine) (z2 : xs.size + ys.size ≤ sizeLine + 1) :
    Meets (Builtin.«list.extend» ⟨[.ref l, .ref b], []⟩) (fun _ R st => st.heap.get? l = some ⟨.type "list", none, .seq xs n, #[]⟩ ∧ st.heap.get? b = some ⟨.type "tuple", dd, .seq ys m, sl⟩ ∧ R (.ok (.ret Value.none)) { st with heap := st.heap.update l (Obj.mapSeq fun z => z ++ ys), toks := st.toks }) := by
  refine .of_wp fun prog w A R st q => ?_
  obtain ⟨hp, ge, dr, tk, os⟩ := st
  obtain ⟨el, eb, k⟩ := q
  have i1 := PySem.AutoSeq1.idx_int
  have i2 := PySem.AutoSeq1.sub_tuple_tuple
  have i3 := PySem.AutoSeq1.sub_list_list
  have i4 := PySem.AutoSeq1.sub_tuple_list
  have i5 := PySem.AutoSeq1.sub_list_tuple
  have z3 : (xs ++ ys).size ≤ sizeLine + 1 := by
    rw [Array.size_append]
    exact z2
  wp_walk using (wpAny_updateSeq el rfl (hz := z1) (_hz' := z3)), (PySem.AutoSeq1.wpAny_loadPart' el), (PySem.AutoSeq1.wpAny_loadPart' eb)
  exact ⟨_, rfl, k⟩
/-! ### sorted, of a list of tuples of whole numbers -/
def noText : Nat → Bool := fun _ => false
theorem items_ints : ∀ {ns : List Int} {its : List Value} (i : Nat), Vals (ns.map V.int) its → tupItems noText i its = some (ns.map Sum.inl)
  | [], its, i, h => by
    cases h
    rfl
  | n :: ns, its, i, h => by
    cases h with
    | cons h1 h2 =>
      obtain ⟨t, rfl⟩ := (show ∃ t, _ = Value.int n t from h1)
      show (if noText i = true then none else (tupItems noText (i + 1) _).map (Sum.inl n :: ·)) = _
      rw [items_ints (i + 1) h2]
      rfl
theorem vals_refs : ∀ {rs : List Addr} {its : List Value}, Vals (rs.map V.ref) its → its = rs.map Value.ref
  | [], its, h => by
    cases h
    rfl
  | r :: rs, its, h => by
    cases h with
    | cons h1 h2 =>
      cases (show _ = Value.ref r from h1)
      rw [vals_refs h2]
      rfl
theorem refs_vals : ∀ rs : List Addr, Vals (rs.map V.ref) (rs.map Value.ref)
  | [] => .nil
  | r :: rs => .cons rfl (refs_vals rs)
def aOf : Value → Addr
  | .ref a => a
  | _ => 0
/-- how tuples of whole numbers stand to one another -/
def notAbove (x y : List Int) : Prop := lexLt itemOrd (y.map Sum.inl) (x.map Sum.inl) = false
def rSortedT (K : PySem.W.Frag) : List V → Hp → VK → Prop := fun vs H Q => ∃ (a : Addr) (rs : List Addr) (f : Addr → List Int), vs = [V.ref a] ∧ SqL K H a (rs.map V.ref) ∧
  (∀ r ∈ rs, H r = some (.tup ((f r).map V.int)) ∧ f r ≠ []) ∧ ∀ (rs' : List Addr) (p : Addr), rs'.Perm rs → rs'.Pairwise (fun x y => notAbove (f x) (f y)) → H p = none → Q (.ref p) (upd H p (.lst (rs'.map V.ref)))
section
variable {h : Heap} {f : Addr → List Int}
def TupAt (h : Heap) (f : Addr → List Int) (r : Addr) : Prop := ∃ o n its, h.get? r = some o ∧ o.cls = .type "tuple" ∧ o.data = .seq (List.toArray its) n ∧ Vals ((f r).map V.int) its ∧ f r ≠ []
theorem TupAt.key {r : Addr} (t : TupAt h f r) : G.tupKeyC h noText (.ref r) = some ((f r).map Sum.inl) := by
  obtain ⟨o, n, its, e, c, d, v, _⟩ := t
  unfold G.tupKeyC
  have e1 : G.isTupObj h (.ref r) = true := by
    unfold G.isTupObj
    simp only [e, c]
    rfl
  rw [if_pos e1]
  unfold tupKey
  simp only [e, d]
  exact items_ints 0 v
theorem TupAt.of {r : Addr} (t : TupAt h f r) : ∃ u, TupOf h noText (.ref r) u := by
  obtain ⟨o, n, its, e, c, d, v, ne⟩ := t
  cases hf : f r with
  | nil => exact absurd hf ne
  | cons z zs =>
    rw [hf] at v
    cases v with
    | cons h1 h2 =>
      obtain ⟨t, rfl⟩ := (show ∃ t, _ = Value.int z t from h1)
      exact ⟨_, r, o, _, n, rfl, e, c, d, rfl, fun _ => ⟨_, _, rfl⟩, fun q => absurd q (by decide)⟩
theorem tups_of : ∀ {rs : List Addr}, (∀ r ∈ rs, TupAt h f r) → ∃ fs, TupsOf h noText (rs.map Value.ref) fs
  | [], _ => ⟨[], .nil⟩
  | r :: rs, t => by
    obtain ⟨u, hu⟩ := (t r List.mem_cons_self).of
    obtain ⟨fs, hfs⟩ := tups_of (rs := rs) fun q hq => t q (List.mem_cons_of_mem _ hq)
    exact ⟨u :: fs, .cons hu hfs⟩
theorem zip_self : ∀ rs : List Addr, (rs.map Value.ref).zip (rs.map Value.ref) = rs.map fun r => (Value.ref r, Value.ref r)
  | [] => rfl
  | r :: rs => by
    show (Value.ref r, Value.ref r) :: (rs.map Value.ref).zip (rs.map Value.ref) = _
    rw [zip_self rs]
    rfl
theorem sorted_out {rs : List Addr} (t : ∀ r ∈ rs, TupAt h f r) {arr : Array Keyed} (hp : arr.Perm (pairsOf (rs.map Value.ref))) (hs : SortedToK (G.tupKindC h noText) arr (pairsOf (rs.map Value.ref)).size) :
    ∃ rs' : List Addr, rs'.Perm rs ∧ (arr.map (·.2)).toList = rs'.map Value.ref ∧ rs'.Pairwise fun x y => notAbove (f x) (f y) := by
  have hl : arr.toList.Perm (rs.map fun r => (Value.ref r, Value.ref r)) := by
    have e := Array.perm_iff_toList_perm.mp hp
    rw [pairsOf_toList, zip_self] at e
    exact e
  have hb : arr.toList = (arr.toList.map fun p => aOf p.2).map fun r => (Value.ref r, Value.ref r) := by
    rw [List.map_map]
    conv => lhs; rw [← List.map_id arr.toList]
    apply List.map_congr_left
    intro p hp'
    obtain ⟨r, _, rfl⟩ := List.mem_map.mp (hl.mem_iff.mp hp')
    rfl
  have pm : (arr.toList.map fun p => aOf p.2).Perm rs := by
    have e := hl.map fun p : Keyed => aOf p.2
    rw [List.map_map] at e
    rw [show rs.map ((fun p : Keyed => aOf p.2) ∘ fun r => (Value.ref r, Value.ref r)) = rs from (List.map_congr_left fun r _ => rfl).trans (List.map_id rs)] at e
    exact e
  refine ⟨_, pm, ?_, ?_⟩
  · rw [Array.toList_map]
    conv => lhs; rw [hb]
    rw [List.map_map]
    rfl
  · generalize arr.toList.map (fun p => aOf p.2) = rs' at hb pm
    have hsz : (pairsOf (rs.map Value.ref)).size = rs'.length := by rw [pairsOf_size, List.length_map, pm.length_eq]
    rw [List.pairwise_iff_getElem]
    intro i j hi hj hij
    have kk : ∀ (i : Nat) (hi : i < rs'.length), KK (G.tupKindC h noText) arr i = (f rs'[i]).map Sum.inl := fun i hi => by
      have e0 : arr[i]? = some (Value.ref rs'[i], Value.ref rs'[i]) := by
        rw [← Array.getElem?_toList, hb, List.getElem?_map, List.getElem?_eq_getElem hi]
        rfl
      unfold KK
      rw [e0]
      show (G.tupKeyC h noText (Value.ref rs'[i])).getD [] = _
      rw [(t _ (pm.mem_iff.mp (List.getElem_mem hi))).key]
      rfl
    have e := hs i j (Nat.le_of_lt hij) (by rw [hsz]; exact hj)
    rw [kk i hi, kk j hj] at e
    exact e
end
section
variable {X : Cx}
theorem cr_sortedT : CallR X (.builtin "sorted") (rSortedT X.K) := by
  intro pins s σ H vs us Q I r h
  obtain ⟨a, rs, f, rfl, hs, ht, q⟩ := h
  obtain ⟨its, rv, hl, hz⟩ := I.list hs
  rw [Vals.ref1 r]
  have e := vals_refs rv
  subst e
  have t : ∀ r ∈ rs, TupAt s.heap f r := fun r hr => by
    obtain ⟨h1, h2⟩ := ht r hr
    obtain ⟨_, its, v, tt⟩ := (show ObjOk X.prog X.w H s.heap r (.tup ((f r).map V.int)) from I.hok r _ h1)
    obtain ⟨o, n, e, c, d⟩ := tup_exact tt
    exact ⟨o, n, its, e, c, d, v, h2⟩
  obtain ⟨fs, hfs⟩ := tups_of t
  rw [List.length_map] at hz
  refine G.sorted_tups hl.isList hfs (fun v hv => ?_) (by rw [List.length_map]; exact hz) fun st' h1 h2 _ => ?_
  · obtain ⟨r, hr, rfl⟩ := List.mem_map.mp hv
    exact ⟨_, (t r hr).key⟩
  · obtain ⟨rs', p1, p2, p3⟩ := sorted_out t h1 h2
    obtain ⟨ep, he'⟩ := PyProof.Rows.sortedAll_at s.heap (rs.map Value.ref) ((arrOf st').map (·.2))
    have hlen : (rs'.map V.ref).length ≤ sizeLine := by rw [List.length_map, p1.length_eq]; exact hz
    exact ⟨.ref _, upd H (s.heap.objs.size + 1) (.lst (rs'.map V.ref)), I.laid (t' := s.toks) (fun _ _ => PyProof.Rows.sortedAll_old) (Nat.le_succ _) ⟨hlen, ((arrOf st').map (·.2)).toList, ep, by rw [p2]; exact refs_vals rs', he'⟩, rfl, q rs' _ p1 p3 (I.hok.fresh (Nat.le_succ _))⟩
theorem mt_extendT : MtM X "list.extend" (rExtendT X.K) := by
  intro pins s σ H x as v us Q I rx ra hx
  obtain ⟨l, b, old, more, ex, ea, el, et, fits, k⟩ := hx
  subst ex ea
  cases rx
  obtain ⟨u, eu, ru⟩ := ra.one
  subst eu
  cases ru
  obtain ⟨_, xi, nl, rl, cl, ol⟩ := I.lstM el
  obtain ⟨yi, rt, tt, _⟩ := I.tuple et
  have ct := rt.length
  obtain ⟨⟨kl, dd, da, sl⟩, nt, ot, kt, dt⟩ := tup_exact tt
  simp only at kt dt
  subst kt dt
  have z2 : xi.toArray.size + yi.toArray.size ≤ sizeLine := by
    simp only [List.size_toArray]
    omega
  have z1 : xi.toArray.size ≤ sizeLine := Nat.le_trans (Nat.le_add_right _ _) z2
  have z0 : ¬ (!xi.toArray.isEmpty && Builtin.List.listTooLong (xi.toArray.size + yi.toArray.size)) = true := fun q => by
    rw [notLongL z2, Bool.and_false] at q
    cases q
  have z3 : (old ++ more).length ≤ sizeLine := by
    rw [List.length_append]
    exact fits
  exact call_meets F.slot_list_extend ⟨_, ol, rfl⟩ F.entry_list_extend (F.args_list_extend_2 _ _) (list_extend_tup l b xi.toArray yi.toArray nl nt dd sl z0 z1 (Nat.le_succ_of_le z2))
    ⟨ol, ot, .non, _, I.lset (its' := xi ++ yi) el ol (by simp) (rl.append rt) z3, rfl, k⟩
end
end L2
end

section
set_option Elab.async false
set_option linter.all false
namespace Cw
/-! ### telling, guest by guest -/
def ixs (p : Cl06.Guest → Bool) (x : Cl06.Meeting) (n : Nat) : List Nat := (List.range n).filter fun j => (x.guests[j]?).any p
theorem ixs_succ (p : Cl06.Guest → Bool) (x : Cl06.Meeting) (n : Nat) : ixs p x (n + 1) = ixs p x n ++ if (x.guests[n]?).any p = true then [n] else [] := by
  unfold ixs
  rw [List.range_succ, List.filter_append, List.filter_cons, List.filter_nil]
theorem ixs_nodup (p : Cl06.Guest → Bool) (x : Cl06.Meeting) (n : Nat) : (ixs p x n).Nodup := List.Nodup.sublist List.filter_sublist List.nodup_range
theorem mem_ixs {p : Cl06.Guest → Bool} {x : Cl06.Meeting} {n j : Nat} : j ∈ ixs p x n ↔ j < n ∧ (x.guests[j]?).any p = true := by
  unfold ixs
  rw [List.mem_filter, List.mem_range]
def more (g : Cl06.Guest) : Cl06.Guest := { g with words := g.words + 1 }
def bump (x : Cl06.Meeting) (js : List Nat) : Cl06.Meeting := { x with guests := x.guests.mapIdx fun j g => if j ∈ js then more g else g }
def wordsOf (x : Cl06.Meeting) (i : Nat) (js : List Nat) : List Cl06.Letter := js.filterMap fun j => (x.guests[j]?).map fun g => Cl06.word x i (more g)
def told (s : Cl06.State) (i : Nat) (x : Cl06.Meeting) (js : List Nat) : Cl06.State := Cl06.send (Cl06.setMeeting s i (bump x js)) (wordsOf x i js)
def tell1 (s : Cl06.State) (i : Nat) (x : Cl06.Meeting) (j : Nat) (g : Cl06.Guest) : Cl06.State := Cl06.send (Cl06.setMeeting s i { x with guests := x.guests.set j (more g) }) [Cl06.word x i (more g)]
theorem bump_nil (x : Cl06.Meeting) : bump x [] = x := by
  unfold bump
  have : (x.guests.mapIdx fun j g => if j ∈ ([] : List Nat) then more g else g) = x.guests := by
    apply List.ext_getElem?
    intro k
    rw [List.getElem?_mapIdx]
    cases x.guests[k]? <;> simp
  rw [this]
theorem bump_get (x : Cl06.Meeting) (js : List Nat) (k : Nat) : (bump x js).guests[k]? = (x.guests[k]?).map fun g => if k ∈ js then more g else g := List.getElem?_mapIdx
theorem set_same {α : Type} : ∀ {l : List α} {i : Nat} {x : α}, l[i]? = some x → l.set i x = l
  | [], _, _, h => by simp at h
  | a :: l, 0, x, h => by
    cases h
    rfl
  | a :: l, i + 1, x, h => by
    show a :: l.set i x = a :: l
    rw [set_same (l := l) h]
theorem told_nil {s : Cl06.State} {i : Nat} {x : Cl06.Meeting} (hx : s.meetings[i]? = some x) (hl : s.letters.length ≤ 100) : told s i x [] = s := by
  unfold told
  rw [bump_nil]
  show Cl06.send (Cl06.setMeeting s i x) [] = s
  unfold Cl06.send Cl06.setMeeting
  rw [List.append_nil, List.take_of_length_le (by simp [Cl06.ROOM]; omega), set_same hx]
theorem take_take_app {α : Type} (n : Nat) (a b : List α) : (a.take n ++ b).take n = (a ++ b).take n := by
  by_cases h : a.length ≤ n
  · rw [List.take_of_length_le h]
  · have h : n ≤ a.length := by omega
    rw [List.take_append_of_le_length (by rw [List.length_take]; omega), List.take_append_of_le_length h, List.take_take, Nat.min_self]
theorem told_snoc {s : Cl06.State} {i j : Nat} {x : Cl06.Meeting} {g : Cl06.Guest} {js : List Nat} (hg : x.guests[j]? = some g) (hj : j ∉ js) :
    tell1 (told s i x js) i (bump x js) j g = told s i x (js ++ [j]) := by
  have e1 : ({ bump x js with guests := (bump x js).guests.set j (more g) } : Cl06.Meeting) = bump x (js ++ [j]) := by
    have : (bump x js).guests.set j (more g) = (bump x (js ++ [j])).guests := by
      apply List.ext_getElem?
      intro k
      rw [List.getElem?_set, bump_get, bump_get]
      have hlen : (bump x js).guests.length = x.guests.length := by
        show (x.guests.mapIdx _).length = _
        simp
      by_cases e : j = k
      · subst e
        rw [if_pos rfl, if_pos (by rw [hlen]; exact (List.getElem?_eq_some_iff.mp hg).1), hg]
        show some (more g) = some (if j ∈ js ++ [j] then more g else g)
        rw [if_pos (by simp)]
      · rw [if_neg e]
        congr 1
        funext g'
        have : (k ∈ js ++ [j]) ↔ k ∈ js := by
          rw [List.mem_append]
          refine ⟨fun q => ?_, .inl⟩
          rcases q with q | q
          · exact q
          · simp at q
            exact absurd q.symm e
        simp [this]
    rw [this]
    rfl
  unfold tell1
  rw [e1]
  unfold told Cl06.send Cl06.setMeeting
  show Cl06.State.mk ((s.meetings.set i (bump x js)).set i (bump x (js ++ [j]))) s.copies (((s.letters ++ wordsOf x i js).take Cl06.ROOM ++ [Cl06.word (bump x js) i (more g)]).take Cl06.ROOM) = Cl06.State.mk (s.meetings.set i (bump x (js ++ [j]))) s.copies ((s.letters ++ wordsOf x i (js ++ [j])).take Cl06.ROOM)
  have e2 : wordsOf x i (js ++ [j]) = wordsOf x i js ++ [Cl06.word (bump x js) i (more g)] := by
    unfold wordsOf
    rw [List.filterMap_append]
    congr 1
    rw [List.filterMap_cons, hg]
    rfl
  rw [List.set_set, e2, take_take_app, List.append_assoc]
theorem filterMap_range {α β : Type} (h : α → Option β) (l : List α) : ∀ n, n ≤ l.length → (l.take n).filterMap h = (List.range n).filterMap fun j => (l[j]?).bind h
  | 0, _ => by simp
  | n + 1, hn => by
    have hlt : n < l.length := by omega
    rw [List.take_succ, List.filterMap_append, filterMap_range h l n (by omega), List.range_succ, List.filterMap_append]
    congr 1
    rw [List.getElem?_eq_getElem hlt]
    simp
    rw [List.filterMap_cons, List.filterMap_cons, List.getElem?_eq_getElem hlt]
    rfl
theorem tell_told {s : Cl06.State} {i : Nat} {x : Cl06.Meeting} (hx : s.meetings[i]? = some x) (p : Cl06.Guest → Bool) (hp : ∀ g ∈ x.guests, p (more g) = p g) : Cl06.tell s i p = told s i x (ixs p x x.guests.length) := by
  have em : Cl06.meeting s i = x := by
    unfold Cl06.meeting
    rw [List.getD_eq_getElem?_getD, hx]
    rfl
  have e1 : ({ x with guests := x.guests.map fun (g : Cl06.Guest) => if p g = true then { g with words := g.words + 1 } else g } : Cl06.Meeting) = bump x (ixs p x x.guests.length) := by
    have : (x.guests.map fun (g : Cl06.Guest) => if p g = true then { g with words := g.words + 1 } else g) = (bump x (ixs p x x.guests.length)).guests := by
      apply List.ext_getElem?
      intro k
      rw [bump_get, List.getElem?_map]
      cases hk : x.guests[k]? with
      | none => rfl
      | some g =>
        show some _ = some _
        congr 1
        dsimp only
        by_cases e : p g = true
        · rw [if_pos e, if_pos (mem_ixs.mpr ⟨(List.getElem?_eq_some_iff.mp hk).1, by rw [hk]; exact e⟩)]
          rfl
        · rw [if_neg e, if_neg fun q => e (by have := (mem_ixs.mp q).2; rw [hk] at this; exact this)]
    rw [this]
    rfl
  have e2 : ((x.guests.map fun (g : Cl06.Guest) => if p g = true then { g with words := g.words + 1 } else g).filter p).map (Cl06.word x i) = wordsOf x i (ixs p x x.guests.length) := by
    have a1 : ((x.guests.map fun (g : Cl06.Guest) => if p g = true then { g with words := g.words + 1 } else g).filter p).map (Cl06.word x i) = x.guests.filterMap fun g => if p g = true then some (Cl06.word x i (more g)) else none := by
      have : ∀ l : List Cl06.Guest, (∀ g ∈ l, p (more g) = p g) → ((l.map fun (g : Cl06.Guest) => if p g = true then { g with words := g.words + 1 } else g).filter p).map (Cl06.word x i) = l.filterMap fun g => if p g = true then some (Cl06.word x i (more g)) else none := by
        intro l
        induction l with
        | nil => intro _; rfl
        | cons g l ih =>
          intro hl
          have ih := ih fun g' hg' => hl g' (List.mem_cons_of_mem _ hg')
          rw [List.map_cons, List.filterMap_cons, List.filter_cons]
          by_cases e : p g = true
          · have e3 : p (more g) = true := (hl g List.mem_cons_self).trans e
            rw [if_pos e, if_pos e]
            rw [if_pos (show p { g with words := g.words + 1 } = true from e3), List.map_cons, ih]
            rfl
          · rw [if_neg e, if_neg e, if_neg e, ih]
      exact this _ hp
    rw [a1]
    have a2 := filterMap_range (fun g => if p g = true then some (Cl06.word x i (more g)) else none) x.guests x.guests.length (Nat.le_refl _)
    rw [List.take_length] at a2
    rw [a2]
    unfold wordsOf ixs
    rw [List.filterMap_filter]
    congr 1
    funext j
    cases hj : x.guests[j]? with
    | none => rfl
    | some g =>
      show (if p g = true then _ else none) = if (some g).any p = true then _ else none
      by_cases e : p g = true
      · rw [if_pos e, if_pos (show (some g).any p = true from e)]
        rfl
      · rw [if_neg e, if_neg (show ¬ (some g).any p = true from e)]
  unfold Cl06.tell
  rw [em]
  show Cl06.send (Cl06.setMeeting s i { x with guests := _ }) (List.map (Cl06.word { x with guests := _ } i) _) = _
  rw [e1]
  unfold told
  congr 1
theorem ixs_len (p : Cl06.Guest → Bool) (x : Cl06.Meeting) : (ixs p x x.guests.length).length = (x.guests.filter p).length := by
  have a2 := filterMap_range (fun g => if p g = true then some g else none) x.guests x.guests.length (Nat.le_refl _)
  rw [List.take_length] at a2
  have a3 : x.guests.filterMap (fun g => if p g = true then some g else none) = x.guests.filter p := by
    rw [← List.filterMap_eq_filter]
    rfl
  rw [← a3, a2]
  unfold ixs
  have : ∀ l : List Nat, (∀ j ∈ l, j < x.guests.length) → (l.filter fun j => (x.guests[j]?).any p).length = (l.filterMap fun j => (x.guests[j]?).bind fun g => if p g = true then some g else none).length := by
    intro l
    induction l with
    | nil => intro _; rfl
    | cons j l ih =>
      intro hl
      have ih := ih fun k hk => hl k (List.mem_cons_of_mem _ hk)
      have hj := hl j List.mem_cons_self
      rw [List.filter_cons, List.filterMap_cons, List.getElem?_eq_getElem hj]
      by_cases e : p x.guests[j] = true
      · simp [e]
        exact ih
      · simp [e]
        exact ih
  exact this _ fun j hj => List.mem_range.mp hj
/-- few guests -/
theorem nodup_lt : ∀ (n : Nat) (l : List Nat), l.Nodup → (∀ a ∈ l, a < n) → l.length ≤ n
  | 0, l, _, h => by
    cases l with
    | nil => exact Nat.le_refl _
    | cons a l => exact absurd (h a List.mem_cons_self) (Nat.not_lt_zero _)
  | n + 1, l, hn, h => by
    have e : l.length ≤ (l.filter fun a => decide (a ≠ n)).length + 1 := by
      clear h
      induction l with
      | nil => simp
      | cons a l ih =>
        rw [List.filter_cons]
        have hn' := List.nodup_cons.mp hn
        by_cases q : a = n
        · subst q
          have : l.filter (fun b => decide (b ≠ a)) = l := by
            rw [List.filter_eq_self]
            intro b hb
            exact decide_eq_true fun z => hn'.1 (z ▸ hb)
          rw [if_neg (by simp), this]
          simp
        · rw [if_pos (decide_eq_true q)]
          have := ih hn'.2
          simp only [List.length_cons]
          omega
    have := nodup_lt n (l.filter fun a => decide (a ≠ n)) (List.Nodup.sublist List.filter_sublist hn) fun a ha => by
      have h1 := h a (List.mem_filter.mp ha).1
      have h2 := of_decide_eq_true (List.mem_filter.mp ha).2
      omega
    omega
end Cw
end

section
set_option Elab.async false
set_option linter.all false
set_option maxRecDepth 100000
namespace Cw
/-! ### how a list of calls is read -/
/-- which call a number's numbers are -/
def D0 (ns : List Nat) (c : Cl06.Call) : Prop := ∃ h t l, ns = h :: t :: l.length :: l ∧ l.length ≤ 10 ∧ c = .new_ h t l
def D1 (ns : List Nat) (c : Cl06.Call) : Prop := ∃ m t, ns = [m, t] ∧ c = .move m t
def D2 (ns : List Nat) (c : Cl06.Call) : Prop := ∃ m, ns = [m] ∧ c = .off m
def D3 (ns : List Nat) (c : Cl06.Call) : Prop := ∃ m g, ns = [m, g] ∧ c = .ask m g
def D4 (ns : List Nat) (c : Cl06.Call) : Prop := ∃ m g, ns = [m, g] ∧ c = .leave m g
def D5 (ns : List Nat) (c : Cl06.Call) : Prop := ∃ p m a t, ns = [p, m, a, t] ∧ c = .answer p m a t
def D6 (ns : List Nat) (c : Cl06.Call) : Prop := ∃ m g, ns = [m, g] ∧ c = .grant m g
def D7 (ns : List Nat) (c : Cl06.Call) : Prop := ∃ m, ns = [m] ∧ c = .nudge m
def D8 (ns : List Nat) (c : Cl06.Call) : Prop := ∃ p m, ns = [p, m] ∧ c = .press p m
def D9 (ns : List Nat) (c : Cl06.Call) : Prop := ∃ k, ns = [k] ∧ c = .take k
def D10 (ns : List Nat) (c : Cl06.Call) : Prop := ∃ k, ns = [k] ∧ c = .keep k
def D11 (ns : List Nat) (c : Cl06.Call) : Prop := ∃ k, ns = [k] ∧ c = .lose k
def D12 (ns : List Nat) (c : Cl06.Call) : Prop := ns = [] ∧ c = .letters
def D13 (ns : List Nat) (c : Cl06.Call) : Prop := ∃ m, ns = [m] ∧ c = .host m
def D14 (ns : List Nat) (c : Cl06.Call) : Prop := ∃ p m, ns = [p, m] ∧ c = .copy p m
def D15 (ns : List Nat) (c : Cl06.Call) : Prop := ∃ p, ns = [p] ∧ c = .shown p
def DD (op : Nat) (ns : List Nat) (c : Cl06.Call) : Prop := match op with
  | 0 => D0 ns c
  | 1 => D1 ns c
  | 2 => D2 ns c
  | 3 => D3 ns c
  | 4 => D4 ns c
  | 5 => D5 ns c
  | 6 => D6 ns c
  | 7 => D7 ns c
  | 8 => D8 ns c
  | 9 => D9 ns c
  | 10 => D10 ns c
  | 11 => D11 ns c
  | 12 => D12 ns c
  | 13 => D13 ns c
  | 14 => D14 ns c
  | 15 => D15 ns c
  | _ => False
def siz (op : Nat) : Nat := ([3, 2, 1, 2, 2, 4, 2, 1, 2, 1, 1, 1, 0, 1, 2, 1] : List Nat).getD op 0
theorem call_flat {p : Int} {r t : List Int} {c : List (List Int)} {n : Nat} (hs : PyCl06.shape p = some (n, 0)) (h : PyFlat.call PyCl06.shape (p :: r) = some (c, t)) : c = [p :: r.take n] ∧ t = r.drop n ∧ n ≤ r.length := by
  unfold PyFlat.call at h
  dsimp only at h
  rw [hs] at h
  dsimp only at h
  by_cases e : r.length < n
  · rw [if_pos e] at h
    cases h
  · rw [if_neg e] at h
    unfold PyFlat.rows at h
    cases h
    exact ⟨rfl, rfl, by omega⟩
theorem back {l : List Int} (h : ∀ z ∈ l, 0 ≤ z) : (l.map Int.toNat).map (fun (n : Nat) => (n : Int)) = l := by
  rw [List.map_map]
  conv => rhs; rw [← List.map_id l]
  apply List.map_congr_left
  intro z hz
  have := h z hz
  show ((z.toNat : Nat) : Int) = z
  omega
structure Read (p : Int) (r t : List Int) (c : List (List Int)) (op : Nat) (xs : List Nat) (cl : Cl06.Call) : Prop where
  op_ : p = (op : Int)
  le : op ≤ 15
  split : r = xs.map (fun (n : Nat) => (n : Int)) ++ t
  call : Cl06Neutral.callOf (PyCl06.whole c) = some cl
  dd : DD op xs cl
  size : op ≠ 0 → xs.length = siz op
theorem read_flat {p : Int} {r t : List Int} {c : List (List Int)} {n op : Nat} (hp : p = (op : Int)) (hs : PyCl06.shape p = some (n, 0)) (h : PyFlat.call PyCl06.shape (p :: r) = some (c, t)) (hn : ∀ z ∈ r, 0 ≤ z) (le : op ≤ 15) (sz : siz op = n)
    (dd : ∀ ys : List Int, ys.length = n → ∃ cl, Cl06Neutral.callOf (PyCl06.whole [p :: ys]) = some cl ∧ DD op (ys.map Int.toNat) cl) : ∃ op xs cl, Read p r t c op xs cl := by
  obtain ⟨rfl, rfl, hl⟩ := call_flat hs h
  obtain ⟨cl, h1, h2⟩ := dd (r.take n) (by rw [List.length_take]; omega)
  refine ⟨op, (r.take n).map Int.toNat, cl, hp, le, ?_, h1, h2, fun _ => by rw [List.length_map, List.length_take, sz]; omega⟩
  rw [back fun z hz => hn z (List.mem_of_mem_take hz), List.take_append_drop]
theorem dd1 (ys : List Int) (h : ys.length = 2) : ∃ cl, Cl06Neutral.callOf (PyCl06.whole [(1 : Int) :: ys]) = some cl ∧ DD 1 (ys.map Int.toNat) cl := by
  match ys, h with
  | [m, t], _ => exact ⟨_, rfl, _, _, rfl, rfl⟩
theorem dd2 (ys : List Int) (h : ys.length = 1) : ∃ cl, Cl06Neutral.callOf (PyCl06.whole [(2 : Int) :: ys]) = some cl ∧ DD 2 (ys.map Int.toNat) cl := by
  match ys, h with
  | [m], _ => exact ⟨_, rfl, _, rfl, rfl⟩
theorem dd3 (ys : List Int) (h : ys.length = 2) : ∃ cl, Cl06Neutral.callOf (PyCl06.whole [(3 : Int) :: ys]) = some cl ∧ DD 3 (ys.map Int.toNat) cl := by
  match ys, h with
  | [m, g], _ => exact ⟨_, rfl, _, _, rfl, rfl⟩
theorem dd4 (ys : List Int) (h : ys.length = 2) : ∃ cl, Cl06Neutral.callOf (PyCl06.whole [(4 : Int) :: ys]) = some cl ∧ DD 4 (ys.map Int.toNat) cl := by
  match ys, h with
  | [m, g], _ => exact ⟨_, rfl, _, _, rfl, rfl⟩
theorem dd5 (ys : List Int) (h : ys.length = 4) : ∃ cl, Cl06Neutral.callOf (PyCl06.whole [(5 : Int) :: ys]) = some cl ∧ DD 5 (ys.map Int.toNat) cl := by
  match ys, h with
  | [p, m, a, t], _ => exact ⟨_, rfl, _, _, _, _, rfl, rfl⟩
theorem dd6 (ys : List Int) (h : ys.length = 2) : ∃ cl, Cl06Neutral.callOf (PyCl06.whole [(6 : Int) :: ys]) = some cl ∧ DD 6 (ys.map Int.toNat) cl := by
  match ys, h with
  | [m, g], _ => exact ⟨_, rfl, _, _, rfl, rfl⟩
theorem dd7 (ys : List Int) (h : ys.length = 1) : ∃ cl, Cl06Neutral.callOf (PyCl06.whole [(7 : Int) :: ys]) = some cl ∧ DD 7 (ys.map Int.toNat) cl := by
  match ys, h with
  | [m], _ => exact ⟨_, rfl, _, rfl, rfl⟩
theorem dd8 (ys : List Int) (h : ys.length = 2) : ∃ cl, Cl06Neutral.callOf (PyCl06.whole [(8 : Int) :: ys]) = some cl ∧ DD 8 (ys.map Int.toNat) cl := by
  match ys, h with
  | [p, m], _ => exact ⟨_, rfl, _, _, rfl, rfl⟩
theorem dd9 (ys : List Int) (h : ys.length = 1) : ∃ cl, Cl06Neutral.callOf (PyCl06.whole [(9 : Int) :: ys]) = some cl ∧ DD 9 (ys.map Int.toNat) cl := by
  match ys, h with
  | [k], _ => exact ⟨_, rfl, _, rfl, rfl⟩
theorem dd10 (ys : List Int) (h : ys.length = 1) : ∃ cl, Cl06Neutral.callOf (PyCl06.whole [(10 : Int) :: ys]) = some cl ∧ DD 10 (ys.map Int.toNat) cl := by
  match ys, h with
  | [k], _ => exact ⟨_, rfl, _, rfl, rfl⟩
theorem dd11 (ys : List Int) (h : ys.length = 1) : ∃ cl, Cl06Neutral.callOf (PyCl06.whole [(11 : Int) :: ys]) = some cl ∧ DD 11 (ys.map Int.toNat) cl := by
  match ys, h with
  | [k], _ => exact ⟨_, rfl, _, rfl, rfl⟩
theorem dd12 (ys : List Int) (h : ys.length = 0) : ∃ cl, Cl06Neutral.callOf (PyCl06.whole [(12 : Int) :: ys]) = some cl ∧ DD 12 (ys.map Int.toNat) cl := by
  have : ys = [] := List.eq_nil_of_length_eq_zero h
  subst this
  exact ⟨_, rfl, rfl, rfl⟩
theorem dd13 (ys : List Int) (h : ys.length = 1) : ∃ cl, Cl06Neutral.callOf (PyCl06.whole [(13 : Int) :: ys]) = some cl ∧ DD 13 (ys.map Int.toNat) cl := by
  match ys, h with
  | [m], _ => exact ⟨_, rfl, _, rfl, rfl⟩
theorem dd14 (ys : List Int) (h : ys.length = 2) : ∃ cl, Cl06Neutral.callOf (PyCl06.whole [(14 : Int) :: ys]) = some cl ∧ DD 14 (ys.map Int.toNat) cl := by
  match ys, h with
  | [p, m], _ => exact ⟨_, rfl, _, _, rfl, rfl⟩
theorem dd15 (ys : List Int) (h : ys.length = 1) : ∃ cl, Cl06Neutral.callOf (PyCl06.whole [(15 : Int) :: ys]) = some cl ∧ DD 15 (ys.map Int.toNat) cl := by
  match ys, h with
  | [p], _ => exact ⟨_, rfl, _, rfl, rfl⟩
theorem read0 {r t : List Int} {c : List (List Int)} (h : PyFlat.call PyCl06.shape ((0 : Int) :: r) = some (c, t)) (ha : Cl06Neutral.asked1 (PyCl06.whole c) = true) (hn : ∀ z ∈ r, 0 ≤ z) : ∃ op xs cl, Read 0 r t c op xs cl := by
  unfold PyFlat.call at h
  dsimp only at h
  rw [show PyCl06.shape 0 = some (2, 1) from rfl] at h
  dsimp only at h
  by_cases e : r.length < 2
  · rw [if_pos e] at h
    cases h
  rw [if_neg e] at h
  match r, e, hn, h with
  | a :: b :: r, _, hn, h =>
    unfold PyFlat.rows at h
    rw [show ((a :: b :: r).drop 2) = r from rfl, show ((a :: b :: r).take 2) = [a, b] from rfl] at h
    match r, hn, h with
    | n :: r, hn, h =>
      unfold PyFlat.row at h
      dsimp only at h
      by_cases e2 : 0 ≤ n ∧ n.toNat ≤ r.length
      · rw [if_pos e2] at h
        unfold PyFlat.rows at h
        cases h
        have hr : ∀ z ∈ r, 0 ≤ z := fun z hz => hn z (by simp [hz])
        have h0 := hn a (by simp)
        have h1 := hn b (by simp)
        have hl : (r.take n.toNat).length = n.toNat := by rw [List.length_take]; omega
        have ha : (Cl06Neutral.small a && (Cl06Neutral.time b && (decide ((r.take n.toNat).length ≤ 10) && (r.take n.toNat).all Cl06Neutral.small))) = true := ha
        rw [Bool.and_eq_true, Bool.and_eq_true, Bool.and_eq_true] at ha
        have h10 := of_decide_eq_true ha.2.2.1
        refine ⟨0, a.toNat :: b.toNat :: n.toNat :: (r.take n.toNat).map Int.toNat, _, rfl, by decide, ?_, rfl, ⟨a.toNat, b.toNat, (r.take n.toNat).map Int.toNat, ?_, ?_, rfl⟩, fun z => absurd rfl z⟩
        · rw [List.map_cons, List.map_cons, List.map_cons, back fun z hz => hr z (List.mem_of_mem_take hz)]
          rw [show ((a.toNat : Nat) : Int) = a by omega, show ((b.toNat : Nat) : Int) = b by omega, show ((n.toNat : Nat) : Int) = n by omega]
          rw [List.cons_append, List.cons_append, List.cons_append, List.take_append_drop]
        · rw [List.length_map, hl]
        · rw [List.length_map]
          exact h10
      · rw [if_neg e2] at h
        cases h
theorem read_call {p : Int} {r t : List Int} {c : List (List Int)} (h : PyFlat.call PyCl06.shape (p :: r) = some (c, t)) (ha : Cl06Neutral.asked1 (PyCl06.whole c) = true) (hn : ∀ z ∈ r, 0 ≤ z) : ∃ op xs cl, Read p r t c op xs cl := by
  by_cases e0 : p = 0
  · subst e0
    exact read0 h ha hn
  by_cases e1 : p = 1
  · subst e1
    exact read_flat (op := 1) rfl (show PyCl06.shape 1 = some (2, 0) from rfl) h hn (by decide) rfl dd1
  by_cases e2 : p = 2
  · subst e2
    exact read_flat (op := 2) rfl (show PyCl06.shape 2 = some (1, 0) from rfl) h hn (by decide) rfl dd2
  by_cases e3 : p = 3
  · subst e3
    exact read_flat (op := 3) rfl (show PyCl06.shape 3 = some (2, 0) from rfl) h hn (by decide) rfl dd3
  by_cases e4 : p = 4
  · subst e4
    exact read_flat (op := 4) rfl (show PyCl06.shape 4 = some (2, 0) from rfl) h hn (by decide) rfl dd4
  by_cases e5 : p = 5
  · subst e5
    exact read_flat (op := 5) rfl (show PyCl06.shape 5 = some (4, 0) from rfl) h hn (by decide) rfl dd5
  by_cases e6 : p = 6
  · subst e6
    exact read_flat (op := 6) rfl (show PyCl06.shape 6 = some (2, 0) from rfl) h hn (by decide) rfl dd6
  by_cases e7 : p = 7
  · subst e7
    exact read_flat (op := 7) rfl (show PyCl06.shape 7 = some (1, 0) from rfl) h hn (by decide) rfl dd7
  by_cases e8 : p = 8
  · subst e8
    exact read_flat (op := 8) rfl (show PyCl06.shape 8 = some (2, 0) from rfl) h hn (by decide) rfl dd8
  by_cases e9 : p = 9
  · subst e9
    exact read_flat (op := 9) rfl (show PyCl06.shape 9 = some (1, 0) from rfl) h hn (by decide) rfl dd9
  by_cases e10 : p = 10
  · subst e10
    exact read_flat (op := 10) rfl (show PyCl06.shape 10 = some (1, 0) from rfl) h hn (by decide) rfl dd10
  by_cases e11 : p = 11
  · subst e11
    exact read_flat (op := 11) rfl (show PyCl06.shape 11 = some (1, 0) from rfl) h hn (by decide) rfl dd11
  by_cases e12 : p = 12
  · subst e12
    exact read_flat (op := 12) rfl (show PyCl06.shape 12 = some (0, 0) from rfl) h hn (by decide) rfl dd12
  by_cases e13 : p = 13
  · subst e13
    exact read_flat (op := 13) rfl (show PyCl06.shape 13 = some (1, 0) from rfl) h hn (by decide) rfl dd13
  by_cases e14 : p = 14
  · subst e14
    exact read_flat (op := 14) rfl (show PyCl06.shape 14 = some (2, 0) from rfl) h hn (by decide) rfl dd14
  by_cases e15 : p = 15
  · subst e15
    exact read_flat (op := 15) rfl (show PyCl06.shape 15 = some (1, 0) from rfl) h hn (by decide) rfl dd15
  exfalso
  unfold PyFlat.call at h
  dsimp only at h
  rw [show PyCl06.shape p = none by unfold PyCl06.shape; simp only [if_neg, e0, e1, e2, e3, e4, e5, e6, e7, e8, e9, e10, e11, e12, e13, e14, e15, not_false_eq_true]] at h
  cases h
end Cw
end

section
set_option Elab.async false
set_option linter.all false
set_option maxRecDepth 100000
set_option maxHeartbeats 2000000
namespace Cw
open PySem PySem.Spec PyProof.Rows L2
/-! ### what stands in an object -/
abbrev vN (n : Nat) : V := .int (n : Int)
abbrev vB (b : Bool) : V := .int ((Cl06.bit b : Nat) : Int)
abbrev vW (o : Option Nat) : V := .int (Cl06.wished o)
def gf (g : Cl06.Guest) : List (Str × V) := [("person", vN g.who), ("words", vN g.words), ("asked", vB g.asked), ("counted", vN g.count), ("answer", vN g.answer), ("wish", vW g.wish)]
def mf (i : Nat) (gl : Addr) (x : Cl06.Meeting) : List (Str × V) := [("number", vN i), ("host", vN x.host), ("time", vN x.time), ("round_no", vN x.round), ("off", vB x.off), ("guests", .ref gl)]
def wf (l : Cl06.Letter) : List (Str × V) := [("guest", vN l.to_), ("host", vN l.from_), ("meeting", vN l.meeting), ("number", vN l.num), ("round_no", vN l.round), ("time", vN l.time), ("off", vB l.off), ("asked", vB l.asked)]
def af (l : Cl06.Letter) : List (Str × V) := [("guest", vN l.from_), ("host", vN l.to_), ("meeting", vN l.meeting), ("number", vN l.num), ("round_no", vN l.round), ("what", vN l.answer), ("wish", vW l.wish)]
def cf (wa : Addr) (c : Cl06.Copy) : List (Str × V) := [("word", .ref wa), ("given", vN c.count), ("answer", vN c.answer), ("wish", vW c.wish)]
def of (lm dc ll : Addr) : List (Str × V) := [("meetings", .ref lm), ("copies", .ref dc), ("letters", .ref ll)]
/-- the classes -/
structure Cs where
  g : Addr
  m : Addr
  w : Addr
  a : Addr
  c : Addr
  o : Addr
/-- they stand apart, as far as it matters -/
structure Cs.Apart (C : Cs) : Prop where
  mg : C.m ≠ C.g
  gw : C.g ≠ C.w
  ga : C.g ≠ C.a
  mw : C.m ≠ C.w
  ma : C.m ≠ C.a
  cw : C.c ≠ C.w
  ca : C.c ≠ C.a
  ow : C.o ≠ C.w
  oa : C.o ≠ C.a
inductive Cl where
  | ins (C : Addr) (fs : List (Str × V))
  | lst (xs : List V)
  | dT (kvs : List (List Key × V))
def At (H : Hp) (a : Addr) : Cl → Prop
  | .ins C fs => ∃ dx, H a = some (.ins C dx fs)
  | .lst xs => H a = some (.lst xs)
  | .dT kvs => H a = some (.dT kvs)
theorem At.some {H : Hp} {a : Addr} : ∀ {c : Cl}, At H a c → ∃ o, H a = some o
  | .ins _ _, ⟨_, h⟩ => ⟨_, h⟩
  | .lst _, h => ⟨_, h⟩
  | .dT _, h => ⟨_, h⟩
theorem At.keep {H H' : Hp} {a : Addr} (k : ∀ o, H a = Option.some o → H' a = Option.some o) : ∀ {c : Cl}, At H a c → At H' a c
  | .ins _ _, ⟨dx, h⟩ => ⟨dx, k _ h⟩
  | .lst _, h => k _ h
  | .dT _, h => k _ h
/-- the places of the world -/
inductive Ix where
  | w | lm | dc | ll
  | meet (i : Nat) | gl (i : Nat) | guest (i j : Nat) | copy (p m : Nat)
structure Lay where
  w : Addr
  lm : Addr
  dc : Addr
  ll : Addr
  ma : Nat → Addr
  gl : Nat → Addr
  ga : Nat → Nat → Addr
  ca : Nat → Nat → Addr
  wa : Nat → Nat → Addr
  la : List Addr
  ck : List (Nat × Nat)
def addr (L : Lay) : Ix → Addr
  | .w => L.w
  | .lm => L.lm
  | .dc => L.dc
  | .ll => L.ll
  | .meet i => L.ma i
  | .gl i => L.gl i
  | .guest i j => L.ga i j
  | .copy p m => L.ca p m
def guestsV (L : Lay) (i n : Nat) : List V := (List.range n).map fun j => V.ref (L.ga i j)
def meetsV (L : Lay) (n : Nat) : List V := (List.range n).map fun i => V.ref (L.ma i)
def keyOf (p m : Nat) : List Key := [.inl (p : Int), .inl (m : Int)]
def copiesV (L : Lay) : List (List Key × V) := L.ck.map fun k => (keyOf k.1 k.2, V.ref (L.ca k.1 k.2))
def cont (C : Cs) (L : Lay) (s : Cl06.State) : Ix → Option Cl
  | .w => some (.ins C.o (of L.lm L.dc L.ll))
  | .lm => some (.lst (meetsV L s.meetings.length))
  | .dc => some (.dT (copiesV L))
  | .ll => some (.lst (L.la.map V.ref))
  | .meet i => s.meetings[i]?.map fun x => .ins C.m (mf i (L.gl i) x)
  | .gl i => s.meetings[i]?.map fun x => .lst (guestsV L i x.guests.length)
  | .guest i j => s.meetings[i]?.bind fun x => x.guests[j]?.map fun g => .ins C.g (gf g)
  | .copy p m => (Cl06.copyOf s p m).map fun c => .ins C.c (cf (L.wa p m) c)
/-- a letter's object (never changed) -/
def LetAt (C : Cs) (H : Hp) (a : Addr) (l : Cl06.Letter) : Prop := (l.kind = 0 ∧ ∃ dx, H a = some (.ins C.w dx (wf l))) ∨ (l.kind = 1 ∧ ∃ dx, H a = some (.ins C.a dx (af l)))
/-- what a copy's word says -/
def wordOf (p m h : Nat) (c : Cl06.Copy) : Cl06.Letter := ⟨0, p, h, m, c.word, c.round, c.time, c.off, c.asked, 0, none⟩
structure Cells (C : Cs) (H : Hp) (L : Lay) (s : Cl06.State) : Prop where
  at_ : ∀ x c, cont C L s x = some c → At H (addr L x) c
  inj : ∀ x y, (cont C L s x).isSome → (cont C L s y).isSome → addr L x = addr L y → x = y
/-- what holds of a letter that is sent -/
def LetOk (s : Cl06.State) (l : Cl06.Letter) : Prop := l.meeting < s.meetings.length ∧ (l.kind = 0 → l.to_ < 5 ∧ ∀ x, s.meetings[l.meeting]? = some x → l.to_ ≠ x.host)
/-- what holds of the state itself -/
structure Gd (s : Cl06.State) : Prop where
  few : s.meetings.length ≤ 6
  nd : ∀ (i : Nat) (x : Cl06.Meeting), s.meetings[i]? = some x → (x.guests.map (·.who)).Nodup
  who : ∀ (i : Nat) (x : Cl06.Meeting) (g : Cl06.Guest), s.meetings[i]? = some x → g ∈ x.guests → g.who < 5 ∧ g.who ≠ x.host
  room : s.letters.length ≤ 100
  lets : ∀ l ∈ s.letters, LetOk s l
  cnt : ∀ p m c, Cl06.copyOf s p m = some c → c.count = 0 → c.answer = 0
  cop : ∀ p m c, Cl06.copyOf s p m = some c → p < 5 ∧ ∃ x, s.meetings[m]? = some x ∧ p ≠ x.host
structure Rep (C : Cs) (H : Hp) (L : Lay) (s : Cl06.State) : Prop where
  cells : Cells C H L s
  llen : L.la.length = s.letters.length
  lets : ∀ (k : Nat) a l, L.la[k]? = some a → s.letters[k]? = some l → LetAt C H a l
  wrd : ∀ p m c, Cl06.copyOf s p m = some c → ∃ h dx, H (L.wa p m) = some (.ins C.w dx (wf (wordOf p m h c)))
  keys : ∀ p m, (p, m) ∈ L.ck ↔ (Cl06.copyOf s p m).isSome
  knd : L.ck.Nodup
  good : Gd s
def Foot (C : Cs) (L : Lay) (s : Cl06.State) (b : Addr) : Prop := ∃ x, (cont C L s x).isSome ∧ addr L x = b
structure Stp (C : Cs) (H : Hp) (L : Lay) (s : Cl06.State) (H' : Hp) (L' : Lay) (s' : Cl06.State) : Prop where
  rep : Rep C H' L' s'
  keep : ∀ b o, H b = some o → ¬ Foot C L s b → H' b = some o
  foot : ∀ b, Foot C L' s' b → Foot C L s b ∨ H b = none
  wd : L'.w = L.w
variable {C : Cs} {H H' H1 H2 : Hp} {L L' L1 L2 : Lay} {s s' s1 s2 : Cl06.State}
theorem LetAt.keep {a : Addr} {l : Cl06.Letter} (k : ∀ o, H a = some o → H' a = some o) : LetAt C H a l → LetAt C H' a l
  | .inl ⟨e, dx, h⟩ => .inl ⟨e, dx, k _ h⟩
  | .inr ⟨e, dx, h⟩ => .inr ⟨e, dx, k _ h⟩
theorem LetAt.some {a : Addr} {l : Cl06.Letter} : LetAt C H a l → ∃ o, H a = some o
  | .inl ⟨_, _, h⟩ => ⟨_, h⟩
  | .inr ⟨_, _, h⟩ => ⟨_, h⟩
theorem Foot.some (R : Rep C H L s) {b : Addr} (f : Foot C L s b) : ∃ o, H b = some o := by
  obtain ⟨x, hx, rfl⟩ := f
  obtain ⟨c, hc⟩ := Option.isSome_iff_exists.mp hx
  exact (R.cells.at_ x c hc).some
theorem Rep.fresh (R : Rep C H L s) {b : Addr} (h : H b = none) : ¬ Foot C L s b := fun f => by
  obtain ⟨o, e⟩ := f.some R
  rw [h] at e
  cases e
/-- no place of the world holds an instance of a letter's class -/
theorem cont_class (A : C.Apart) {x : Ix} {D : Addr} {fs : List (Str × V)} (h : cont C L s x = some (.ins D fs)) : D ≠ C.w ∧ D ≠ C.a := by
  cases x with
  | w => cases h; exact ⟨A.ow, A.oa⟩
  | lm => cases h
  | dc => cases h
  | ll => cases h
  | meet i =>
    obtain ⟨y, _, e⟩ := Option.map_eq_some_iff.mp h
    cases e; exact ⟨A.mw, A.ma⟩
  | gl i =>
    obtain ⟨y, _, e⟩ := Option.map_eq_some_iff.mp h
    cases e
  | guest i j =>
    obtain ⟨y, _, e⟩ := Option.bind_eq_some_iff.mp h
    obtain ⟨z, _, e⟩ := Option.map_eq_some_iff.mp e
    cases e; exact ⟨A.gw, A.ga⟩
  | copy p m =>
    obtain ⟨y, _, e⟩ := Option.map_eq_some_iff.mp h
    cases e; exact ⟨A.cw, A.ca⟩
theorem Rep.notFoot (R : Rep C H L s) (A : C.Apart) {a D dx : Addr} {fs : List (Str × V)} (h : H a = some (.ins D dx fs)) (hD : D = C.w ∨ D = C.a) : ¬ Foot C L s a := fun ⟨x, hx, e⟩ => by
  obtain ⟨c, hc⟩ := Option.isSome_iff_exists.mp hx
  have ha := R.cells.at_ x c hc
  rw [e] at ha
  cases c with
  | ins D' fs' =>
    obtain ⟨dx', h'⟩ := ha
    rw [h] at h'
    have e1 : D = D' := by injection h' with h'; injection h'
    subst e1
    have q := cont_class A hc
    rcases hD with z | z
    · exact q.1 z
    · exact q.2 z
  | lst xs => exact absurd (h.symm.trans ha) fun q => by cases q
  | dT xs => exact absurd (h.symm.trans ha) fun q => by cases q
theorem Rep.letNot (R : Rep C H L s) (A : C.Apart) {a : Addr} {l : Cl06.Letter} : LetAt C H a l → ¬ Foot C L s a
  | .inl ⟨_, dx, h⟩ => R.notFoot A h (.inl rfl)
  | .inr ⟨_, dx, h⟩ => R.notFoot A h (.inr rfl)
/-! ### steps -/
theorem Stp.refl (R : Rep C H L s) : Stp C H L s H L s := ⟨R, fun _ _ e _ => e, fun _ f => .inl f, rfl⟩
theorem Stp.trans (a : Stp C H L s H1 L1 s1) (b : Stp C H1 L1 s1 H2 L2 s2) : Stp C H L s H2 L2 s2 where
  rep := b.rep
  keep := fun c o e n => b.keep c o (a.keep c o e n) fun f => by
    rcases a.foot c f with q | q
    · exact n q
    · rw [q] at e; cases e
  foot := fun c f => by
    rcases b.foot c f with q | q
    · exact a.foot c q
    · cases e : H c with
      | none => exact .inr rfl
      | some o =>
        by_cases z : Foot C L s c
        · exact .inl z
        · rw [a.keep c o e z] at q; cases q
  wd := b.wd.trans a.wd
theorem Stp.hold (a : Stp C H L s H' L' s') {b : Addr} {o : HO} (e : H b = some o) (n : ¬ Foot C L s b) : H' b = some o ∧ ¬ Foot C L' s' b := ⟨a.keep b o e n, fun f => by
  rcases a.foot b f with q | q
  · exact n q
  · rw [q] at e; cases e⟩
theorem Stp.let_ (a : Stp C H L s H' L' s') (R : Rep C H L s) (A : C.Apart) {b : Addr} {l : Cl06.Letter} (h : LetAt C H b l) : LetAt C H' b l :=
  h.keep fun o e => a.keep b o e (R.letNot A h)
/-- more was laid beside -/
theorem Rep.same (R : Rep C H L s) (k : Same H H') : Rep C H' L s where
  cells := ⟨fun x c h => (R.cells.at_ x c h).keep fun o e => k _ o e, R.cells.inj⟩
  llen := R.llen
  lets := fun i a l h1 h2 => (R.lets i a l h1 h2).keep fun o e => k _ o e
  wrd := fun p m c h => let ⟨x, dx, e⟩ := R.wrd p m c h; ⟨x, dx, k _ _ e⟩
  keys := R.keys
  knd := R.knd
  good := R.good
theorem Rep.laid (R : Rep C H L s) (k : Same H H') : Stp C H L s H' L s := ⟨R.same k, fun b o e _ => k b o e, fun _ f => .inl f, rfl⟩
/-! ### one place is written -/
theorem Cells.write1 {x : Ix} {c0 c' : Cl} (R : Cells C H L s) (h0 : cont C L s x = some c0) (hfr : ∀ b o, H b = some o → b ≠ addr L x → H' b = some o) (hnew : At H' (addr L x) c')
    (ha : ∀ y, addr L' y = addr L y) (hx : cont C L' s' x = some c') (hy : ∀ y, y ≠ x → cont C L' s' y = cont C L s y) : Cells C H' L' s' := by
  have hs : ∀ y, (cont C L' s' y).isSome → (cont C L s y).isSome := fun y h => by
    by_cases e : y = x
    · subst e; rw [h0]; rfl
    · rw [hy y e] at h; exact h
  refine ⟨fun y c h => ?_, fun y z h1 h2 e => R.inj y z (hs y h1) (hs z h2) (by rw [ha, ha] at e; exact e)⟩
  rw [ha]
  by_cases e : y = x
  · subst e
    rw [hx] at h
    cases h
    exact hnew
  · rw [hy y e] at h
    refine (R.at_ y c h).keep fun o eo => hfr _ o eo fun q => e (R.inj y x (by rw [h]; rfl) (by rw [h0]; rfl) q)
theorem Stp.write1 {x : Ix} {c0 c' : Cl} (A : C.Apart) (R : Rep C H L s) (h0 : cont C L s x = some c0) (hfr : ∀ b o, H b = some o → b ≠ addr L x → H' b = some o) (hnew : At H' (addr L x) c')
    (ha : ∀ y, addr L' y = addr L y) (hx : cont C L' s' x = some c') (hy : ∀ y, y ≠ x → cont C L' s' y = cont C L s y)
    (hl : L'.la.length = s'.letters.length) (hlt : ∀ (k : Nat) a l, L'.la[k]? = some a → s'.letters[k]? = some l → LetAt C H a l)
    (hw : ∀ p m c, Cl06.copyOf s' p m = some c → ∃ h dx, H (L'.wa p m) = some (.ins C.w dx (wf (wordOf p m h c))))
    (hk : ∀ p m, (p, m) ∈ L'.ck ↔ (Cl06.copyOf s' p m).isSome) (hkn : L'.ck.Nodup) (hg : Gd s') : Stp C H L s H' L' s' := by
  have fx : Foot C L s (addr L x) := ⟨x, by rw [h0]; rfl, rfl⟩
  have kp : ∀ b o, H b = some o → ¬ Foot C L s b → H' b = some o := fun b o e n => hfr b o e fun q => n (q ▸ fx)
  refine ⟨⟨R.cells.write1 h0 hfr hnew ha hx hy, hl, fun k a l h1 h2 => ?_, fun p m c h => ?_, hk, hkn, hg⟩, kp, fun b ⟨y, h1, h2⟩ => .inl ?_, ha .w⟩
  · have q := hlt k a l h1 h2
    exact q.keep fun o e => kp a o e (R.letNot A q)
  · obtain ⟨h', dx, q⟩ := hw p m c h
    exact ⟨h', dx, kp _ _ q (R.notFoot A q (.inl rfl))⟩
  · rw [ha] at h2
    refine ⟨y, ?_, h2⟩
    by_cases e : y = x
    · subst e; rw [h0]; rfl
    · rw [hy y e] at h1; exact h1
end Cw
end

section
set_option Elab.async false
set_option linter.all false
set_option maxRecDepth 100000
set_option maxHeartbeats 2000000
namespace Cw
open PySem PySem.Spec PyProof.Rows L2
variable {C : Cs} {H H' H1 H2 : Hp} {L L' L1 L2 : Lay} {s s' s1 s2 : Cl06.State}
/-! ### the state alone -/
theorem get_set {α : Type} {l : List α} {i k : Nat} {x y : α} (h : l[i]? = some x) : (l.set i y)[k]? = if i = k then some y else l[k]? := by
  have hi : i < l.length := (List.getElem?_eq_some_iff.mp h).1
  rw [List.getElem?_set]
  by_cases e : i = k
  · subst e; rw [if_pos rfl, if_pos rfl, if_pos hi]
  · rw [if_neg e, if_neg e]
theorem map_set {α β : Type} (f : α → β) : ∀ (l : List α) (j : Nat) (y x : α), l[j]? = some x → f y = f x → (l.set j y).map f = l.map f
  | [], _, _, _, _, _ => rfl
  | a :: l, 0, y, x, h, e => by
    cases h
    show f y :: l.map f = f a :: l.map f
    rw [e]
  | a :: l, j + 1, y, x, h, e => by
    show f a :: (l.set j y).map f = f a :: l.map f
    rw [map_set f l j y x h e]
theorem Gd.meeting (G : Gd s) {i : Nat} {x x' : Cl06.Meeting} (hx : s.meetings[i]? = some x) (hh : x'.host = x.host) (hw : x'.guests.map (·.who) = x.guests.map (·.who)) : Gd (Cl06.setMeeting s i x') := by
  have gm : ∀ (k : Nat) (y : Cl06.Meeting), (Cl06.setMeeting s i x').meetings[k]? = some y → ∃ z : Cl06.Meeting, s.meetings[k]? = some z ∧ y.host = z.host ∧ y.guests.map (·.who) = z.guests.map (·.who) := fun k y h => by
    have h : (s.meetings.set i x')[k]? = some y := h
    rw [get_set hx] at h
    by_cases e : i = k
    · subst e
      rw [if_pos rfl] at h
      cases h
      exact ⟨x, hx, hh, hw⟩
    · rw [if_neg e] at h
      exact ⟨y, h, rfl, rfl⟩
  have gl : (Cl06.setMeeting s i x').meetings.length = s.meetings.length := List.length_set
  refine ⟨by rw [gl]; exact G.few, fun k y h => ?_, fun k y g h hg => ?_, G.room, fun l h1 => ⟨by rw [gl]; exact (G.lets l h1).1, fun h2 => ⟨((G.lets l h1).2 h2).1, fun y h3 => ?_⟩⟩, G.cnt, fun p m c h => ⟨(G.cop p m c h).1, ?_⟩⟩
  · obtain ⟨z, h1, _, h2⟩ := gm k y h
    rw [h2]
    exact G.nd k z h1
  · obtain ⟨z, h1, h2, h3⟩ := gm k y h
    have q : g.who ∈ z.guests.map (·.who) := h3 ▸ List.mem_map.mpr ⟨g, hg, rfl⟩
    obtain ⟨g2, hg2, e⟩ := List.mem_map.mp q
    have := G.who k z g2 h1 hg2
    rw [h2, ← e]
    exact this
  · obtain ⟨z, h4, h5, _⟩ := gm _ y h3
    rw [h5]
    exact ((G.lets l h1).2 h2).2 z h4
  · obtain ⟨_, y, h1, h2⟩ := G.cop p m c h
    have h3 : (s.meetings.set i x')[m]? = if i = m then some x' else s.meetings[m]? := get_set hx
    by_cases e : i = m
    · subst e
      rw [if_pos rfl] at h3
      rw [hx] at h1
      cases h1
      exact ⟨x', h3, by rw [hh]; exact h2⟩
    · rw [if_neg e] at h3
      exact ⟨y, h3.trans h1, h2⟩
theorem copyOf_set (s : Cl06.State) (p m : Nat) (c : Cl06.Copy) (p' m' : Nat) : Cl06.copyOf (Cl06.setCopy s p m c) p' m' = if p' = p ∧ m' = m then some c else Cl06.copyOf s p' m' := by
  unfold Cl06.copyOf Cl06.setCopy
  rw [List.find?_append]
  by_cases e : p' = p ∧ m' = m
  · obtain ⟨rfl, rfl⟩ := e
    rw [if_pos ⟨rfl, rfl⟩]
    have : ((s.copies.filter fun (x : Nat × Nat × Cl06.Copy) => !(x.1 == p' && x.2.1 == m')).find? fun (x : Nat × Nat × Cl06.Copy) => x.1 == p' && x.2.1 == m') = none := by
      rw [List.find?_eq_none]
      intro x hx
      have := (List.mem_filter.mp hx).2
      intro q
      rw [q] at this
      cases this
    rw [this]
    simp
  · rw [if_neg e]
    have h2 : ([(p, m, c)] : List (Nat × Nat × Cl06.Copy)).find? (fun (x : Nat × Nat × Cl06.Copy) => x.1 == p' && x.2.1 == m') = none := by
      rw [List.find?_eq_none]
      intro x hx
      have hx : x = (p, m, c) := by simpa using hx
      subst hx
      intro q
      simp at q
      exact e ⟨q.1.symm, q.2.symm⟩
    rw [h2, Option.or_none]
    congr 1
    rw [List.find?_filter]
    congr 1
    funext x
    by_cases q : x.1 = p' ∧ x.2.1 = m'
    · obtain ⟨q1, q2⟩ := q
      have : ¬ (x.1 = p ∧ x.2.1 = m) := fun z => e ⟨q1 ▸ z.1, q2 ▸ z.2⟩
      simp [q1, q2]
      by_cases z : p' = p
      · exact .inr fun z2 => e ⟨z, z2⟩
      · exact .inl z
    · have : (x.1 == p' && x.2.1 == m') = false := by
        rw [Bool.and_eq_false_iff]
        by_cases z : x.1 = p'
        · right; simp; exact fun y => q ⟨z, y⟩
        · left; simpa using z
      rw [this]; simp
theorem Gd.copy (G : Gd s) {p m : Nat} {c : Cl06.Copy} (h1 : c.count = 0 → c.answer = 0) (h2 : p < 5 ∧ ∃ x, s.meetings[m]? = some x ∧ p ≠ x.host) : Gd (Cl06.setCopy s p m c) := by
  refine ⟨G.few, G.nd, G.who, G.room, G.lets, fun p' m' c' h => ?_, fun p' m' c' h => ?_⟩
  · rw [copyOf_set] at h
    split at h
    · cases h; exact h1
    · exact G.cnt p' m' c' h
  · rw [copyOf_set] at h
    split at h
    · rename_i e
      obtain ⟨rfl, rfl⟩ := e
      exact h2
    · exact G.cop p' m' c' h
/-! ### a guest is changed -/
theorem Stp.guest (A : C.Apart) (R : Rep C H L s) {i j : Nat} {x : Cl06.Meeting} {g g' : Cl06.Guest} (hx : s.meetings[i]? = some x) (hg : x.guests[j]? = some g) (hw : g'.who = g.who)
    (hfr : ∀ b o, H b = some o → b ≠ L.ga i j → H' b = some o) (hnew : At H' (L.ga i j) (.ins C.g (gf g'))) :
    Stp C H L s H' L (Cl06.setMeeting s i { x with guests := x.guests.set j g' }) := by
  have gm : ∀ k, (Cl06.setMeeting s i { x with guests := x.guests.set j g' }).meetings[k]? = if i = k then some { x with guests := x.guests.set j g' } else s.meetings[k]? := fun k => get_set hx
  refine Stp.write1 (x := .guest i j) (c0 := .ins C.g (gf g)) (c' := .ins C.g (gf g')) A R ?_ hfr hnew (fun _ => rfl) ?_ (fun y hy => ?_) R.llen R.lets R.wrd R.keys R.knd (R.good.meeting hx rfl (map_set _ _ _ _ _ hg hw))
  · show s.meetings[i]?.bind _ = _
    rw [hx]
    show x.guests[j]?.map _ = _
    rw [hg]
    rfl
  · show (Cl06.setMeeting s i _).meetings[i]?.bind _ = _
    rw [gm, if_pos rfl]
    show (x.guests.set j g')[j]?.map _ = _
    rw [get_set hg, if_pos rfl]
    rfl
  · cases y with
    | w => rfl
    | lm =>
      show some (Cl.lst (meetsV L (s.meetings.set i _).length)) = _
      rw [List.length_set]
      rfl
    | dc => rfl
    | ll => rfl
    | meet k =>
      show (Cl06.setMeeting s i _).meetings[k]?.map _ = s.meetings[k]?.map _
      rw [gm]
      by_cases e : i = k
      · subst e; rw [if_pos rfl, hx]; rfl
      · rw [if_neg e]
    | gl k =>
      show (Cl06.setMeeting s i _).meetings[k]?.map _ = s.meetings[k]?.map _
      rw [gm]
      by_cases e : i = k
      · subst e
        rw [if_pos rfl, hx]
        show some (Cl.lst (guestsV L i (x.guests.set j g').length)) = _
        rw [List.length_set]
        rfl
      · rw [if_neg e]
    | guest k l =>
      show (Cl06.setMeeting s i _).meetings[k]?.bind _ = s.meetings[k]?.bind _
      rw [gm]
      by_cases e : i = k
      · subst e
        rw [if_pos rfl, hx]
        show (x.guests.set j g')[l]?.map _ = x.guests[l]?.map _
        rw [get_set hg, if_neg (fun q => hy (by rw [q]))]
      · rw [if_neg e]
    | copy p m => rfl
/-! ### a meeting's own numbers are changed -/
theorem Stp.meeting (A : C.Apart) (R : Rep C H L s) {i : Nat} {x x' : Cl06.Meeting} (hx : s.meetings[i]? = some x) (hh : x'.host = x.host) (hw : x'.guests = x.guests)
    (hfr : ∀ b o, H b = some o → b ≠ L.ma i → H' b = some o) (hnew : At H' (L.ma i) (.ins C.m (mf i (L.gl i) x'))) : Stp C H L s H' L (Cl06.setMeeting s i x') := by
  have gm : ∀ k, (Cl06.setMeeting s i x').meetings[k]? = if i = k then some x' else s.meetings[k]? := fun k => get_set hx
  refine Stp.write1 (x := .meet i) (c0 := .ins C.m (mf i (L.gl i) x)) (c' := .ins C.m (mf i (L.gl i) x')) A R ?_ hfr hnew (fun _ => rfl) ?_ (fun y hy => ?_) R.llen R.lets R.wrd R.keys R.knd (R.good.meeting hx hh (by rw [hw]))
  · show s.meetings[i]?.map _ = _
    rw [hx]
    rfl
  · show (Cl06.setMeeting s i _).meetings[i]?.map _ = _
    rw [gm, if_pos rfl]
    rfl
  · cases y with
    | w => rfl
    | lm =>
      show some (Cl.lst (meetsV L (s.meetings.set i _).length)) = _
      rw [List.length_set]
      rfl
    | dc => rfl
    | ll => rfl
    | meet k =>
      show (Cl06.setMeeting s i _).meetings[k]?.map _ = s.meetings[k]?.map _
      rw [gm, if_neg (fun e => hy (by rw [e]))]
    | gl k =>
      show (Cl06.setMeeting s i _).meetings[k]?.map _ = s.meetings[k]?.map _
      rw [gm]
      by_cases e : i = k
      · subst e
        rw [if_pos rfl, hx]
        show some (Cl.lst (guestsV L i x'.guests.length)) = _
        rw [hw]
        rfl
      · rw [if_neg e]
    | guest k l =>
      show (Cl06.setMeeting s i _).meetings[k]?.bind _ = s.meetings[k]?.bind _
      rw [gm]
      by_cases e : i = k
      · subst e
        rw [if_pos rfl, hx]
        show x'.guests[l]?.map _ = x.guests[l]?.map _
        rw [hw]
      · rw [if_neg e]
    | copy p m => rfl
/-! ### the letters -/
theorem Stp.letters (A : C.Apart) (R : Rep C H L s) {la : List Addr} {ls : List Cl06.Letter} (hfr : ∀ b o, H b = some o → b ≠ L.ll → H' b = some o) (hnew : H' L.ll = some (.lst (la.map V.ref)))
    (hl : la.length = ls.length) (hlt : ∀ (k : Nat) a l, la[k]? = some a → ls[k]? = some l → LetAt C H a l) (hn : ls.length ≤ 100) (hm : ∀ l ∈ ls, LetOk s l) :
    Stp C H L s H' { L with la := la } { s with letters := ls } := by
  have G := R.good
  refine Stp.write1 (x := .ll) (c0 := .lst (L.la.map V.ref)) (c' := .lst (la.map V.ref)) A R rfl hfr hnew (fun y => by cases y <;> rfl) rfl (fun y hy => ?_) hl hlt R.wrd R.keys R.knd
    ⟨G.few, G.nd, G.who, hn, hm, G.cnt, G.cop⟩
  cases y with
  | ll => exact absurd rfl hy
  | _ => rfl
/-! ### a copy is changed -/
def Lay.setWa (L : Lay) (p m : Nat) (a : Addr) : Lay := { L with wa := fun p' m' => if p' = p ∧ m' = m then a else L.wa p' m' }
theorem Stp.copy (A : C.Apart) (R : Rep C H L s) {p m : Nat} {c c' : Cl06.Copy} {wa dw hh : Addr} (hc : Cl06.copyOf s p m = some c) (hcnt : c'.count = 0 → c'.answer = 0)
    (hw : H wa = some (.ins C.w dw (wf (wordOf p m hh c')))) (hfr : ∀ b o, H b = some o → b ≠ L.ca p m → H' b = some o) (hnew : At H' (L.ca p m) (.ins C.c (cf wa c'))) :
    Stp C H L s H' (L.setWa p m wa) (Cl06.setCopy s p m c') := by
  have G := R.good
  refine Stp.write1 (x := .copy p m) (c0 := .ins C.c (cf (L.wa p m) c)) (c' := .ins C.c (cf wa c')) A R ?_ hfr hnew (fun y => by cases y <;> rfl) ?_ (fun y hy => ?_) R.llen R.lets (fun p' m' d h => ?_) (fun p' m' => ?_) R.knd (G.copy hcnt (G.cop p m c hc))
  · show (Cl06.copyOf s p m).map _ = _
    rw [hc]
    rfl
  · show (Cl06.copyOf (Cl06.setCopy s p m c') p m).map _ = _
    rw [copyOf_set, if_pos ⟨rfl, rfl⟩]
    show some (Cl.ins C.c (cf (if p = p ∧ m = m then wa else L.wa p m) c')) = _
    rw [if_pos ⟨rfl, rfl⟩]
  · cases y with
    | copy p' m' =>
      have e : ¬ (p' = p ∧ m' = m) := fun q => hy (by rw [q.1, q.2])
      show (Cl06.copyOf (Cl06.setCopy s p m c') p' m').map (fun d => Cl.ins C.c (cf (if p' = p ∧ m' = m then wa else L.wa p' m') d)) = _
      rw [copyOf_set, if_neg e, if_neg e]
      rfl
    | _ => rfl
  · rw [copyOf_set] at h
    show ∃ h dx, H (if p' = p ∧ m' = m then wa else L.wa p' m') = _
    by_cases e : p' = p ∧ m' = m
    · rw [if_pos e] at h ⊢
      cases h
      obtain ⟨rfl, rfl⟩ := e
      exact ⟨hh, dw, hw⟩
    · rw [if_neg e] at h ⊢
      exact R.wrd p' m' d h
  · rw [copyOf_set]
    by_cases e : p' = p ∧ m' = m
    · rw [if_pos e]
      obtain ⟨rfl, rfl⟩ := e
      exact ⟨fun _ => rfl, fun _ => (R.keys p' m').mpr (by rw [hc]; rfl)⟩
    · rw [if_neg e]
      exact R.keys p' m'
end Cw
end

section
set_option Elab.async false
set_option linter.all false
set_option maxRecDepth 100000
set_option maxHeartbeats 2000000
namespace Cw
open PySem PySem.Spec PyProof.Rows L2
variable {C : Cs} {H H' H1 H2 : Hp} {L L' L1 L2 : Lay} {s s' s1 s2 : Cl06.State}
/-! ### new places -/
theorem Stp.more (A : C.Apart) (R : Rep C H L s) (N : Ix → Prop) (hfr : ∀ b o, H b = some o → ¬ Foot C L s b → H' b = some o)
    (hat : ∀ y c, cont C L' s' y = some c → At H' (addr L' y) c)
    (old : ∀ y, ¬ N y → (cont C L' s' y).isSome → (cont C L s y).isSome ∧ addr L' y = addr L y)
    (new : ∀ y, N y → (cont C L' s' y).isSome → H (addr L' y) = none)
    (nn : ∀ y z, N y → N z → (cont C L' s' y).isSome → (cont C L' s' z).isSome → addr L' y = addr L' z → y = z)
    (hl : L'.la.length = s'.letters.length) (hlt : ∀ (k : Nat) a l, L'.la[k]? = some a → s'.letters[k]? = some l → LetAt C H a l)
    (hw : ∀ p m c, Cl06.copyOf s' p m = some c → ∃ h dx, H (L'.wa p m) = some (.ins C.w dx (wf (wordOf p m h c))))
    (hk : ∀ p m, (p, m) ∈ L'.ck ↔ (Cl06.copyOf s' p m).isSome) (hkn : L'.ck.Nodup) (hg : Gd s') (hwd : L'.w = L.w := by rfl) : Stp C H L s H' L' s' := by
  have so : ∀ y, (cont C L s y).isSome → ∃ o, H (addr L y) = some o := fun y h => by
    obtain ⟨c, hc⟩ := Option.isSome_iff_exists.mp h
    exact (R.cells.at_ y c hc).some
  have on : ∀ y z, ¬ N y → N z → (cont C L' s' y).isSome → (cont C L' s' z).isSome → addr L' y = addr L' z → False := fun y z h1 h2 h3 h4 e => by
    obtain ⟨q1, q2⟩ := old y h1 h3
    obtain ⟨o, q3⟩ := so y q1
    have q4 := new z h2 h4
    rw [← e, q2, q3] at q4
    cases q4
  refine ⟨⟨⟨hat, fun y z h1 h2 e => ?_⟩, hl, fun k a l h1 h2 => ?_, fun p m c h => ?_, hk, hkn, hg⟩, hfr, fun b ⟨y, h1, h2⟩ => ?_, hwd⟩
  · by_cases hy : N y
    · by_cases hz : N z
      · exact nn y z hy hz h1 h2 e
      · exact (on z y hz hy h2 h1 e.symm).elim
    · by_cases hz : N z
      · exact (on y z hy hz h1 h2 e).elim
      · obtain ⟨q1, q2⟩ := old y hy h1
        obtain ⟨q3, q4⟩ := old z hz h2
        exact R.cells.inj y z q1 q3 (by rw [← q2, ← q4]; exact e)
  · have q := hlt k a l h1 h2
    exact q.keep fun o e => hfr a o e (R.letNot A q)
  · obtain ⟨h', dx, q⟩ := hw p m c h
    exact ⟨h', dx, hfr _ _ q (R.notFoot A q (.inl rfl))⟩
  · by_cases hy : N y
    · exact .inr (h2 ▸ new y hy h1)
    · obtain ⟨q1, q2⟩ := old y hy h1
      exact .inl ⟨y, q1, by rw [← q2]; exact h2⟩
/-- what stands at an old place that is not the one written -/
theorem Rep.stay (R : Rep C H L s) {x y : Ix} {c c0 : Cl} (hx : cont C L s x = some c0) (hy : cont C L s y = some c) (n : y ≠ x) (hfr : ∀ b o, H b = some o → b ≠ addr L x → H' b = some o) : At H' (addr L y) c :=
  (R.cells.at_ y c hy).keep fun o e => hfr _ o e fun q => n (R.cells.inj y x (by rw [hy]; rfl) (by rw [hx]; rfl) q)
/-! ### a new copy -/
def Lay.newCopy (L : Lay) (p m : Nat) (a wa : Addr) : Lay := { L with ca := fun p' m' => if p' = p ∧ m' = m then a else L.ca p' m', wa := fun p' m' => if p' = p ∧ m' = m then wa else L.wa p' m', ck := L.ck ++ [(p, m)] }
theorem key_inj {p m p' m' : Nat} (h : keyOf p m = keyOf p' m') : p = p' ∧ m = m' := by
  unfold keyOf at h
  simp at h
  omega
theorem copiesV_none (R : Rep C H L s) {p m : Nat} (h : Cl06.copyOf s p m = none) : ((copiesV L).any fun kv => decide (kv.1 = keyOf p m)) = false := by
  rw [List.any_eq_false]
  intro kv hkv q
  obtain ⟨k, hk, rfl⟩ := List.mem_map.mp hkv
  have e := key_inj (of_decide_eq_true q)
  have := (R.keys p m).mp (by rw [← e.1, ← e.2]; exact hk)
  rw [h] at this
  cases this
theorem putK_new (R : Rep C H L s) {p m : Nat} {v : V} (h : Cl06.copyOf s p m = none) : putK (copiesV L) (keyOf p m) v = copiesV L ++ [(keyOf p m, v)] := by
  unfold putK
  rw [copiesV_none R h]
  rfl
theorem valV_find (L : Lay) (p m : Nat) : valV (copiesV L) (keyOf p m) = (L.ck.find? fun k => decide (k = (p, m))).map fun k => V.ref (L.ca k.1 k.2) := by
  unfold valV copiesV
  rw [List.find?_map, Option.map_map]
  congr 1
  congr 1
  funext k
  show decide (keyOf k.1 k.2 = keyOf p m) = decide (k = (p, m))
  by_cases e : k = (p, m)
  · subst e; simp
  · rw [decide_eq_false e, decide_eq_false]
    intro q
    obtain ⟨e1, e2⟩ := key_inj q
    exact e (Prod.ext e1 e2)
theorem valV_some (R : Rep C H L s) {p m : Nat} {c : Cl06.Copy} (h : Cl06.copyOf s p m = some c) : valV (copiesV L) (keyOf p m) = some (V.ref (L.ca p m)) := by
  rw [valV_find]
  have hm : (p, m) ∈ L.ck := (R.keys p m).mpr (by rw [h]; rfl)
  cases e : L.ck.find? fun k => decide (k = (p, m)) with
  | none => exact absurd (List.find?_eq_none.mp e _ hm) (by simp)
  | some k =>
    have := of_decide_eq_true (List.find?_some (p := fun k => decide (k = (p, m))) e)
    subst this
    rfl
theorem valV_none (R : Rep C H L s) {p m : Nat} (h : Cl06.copyOf s p m = none) : valV (copiesV L) (keyOf p m) = none := by
  rw [valV_find]
  have : L.ck.find? (fun k => decide (k = (p, m))) = none := by
    rw [List.find?_eq_none]
    intro k hk q
    have := of_decide_eq_true q
    subst this
    have := (R.keys p m).mp hk
    rw [h] at this
    cases this
  rw [this]
  rfl
theorem Stp.newCopy (A : C.Apart) (R : Rep C H L s) {p m : Nat} {c : Cl06.Copy} {a wa dw hh : Addr} (hc : Cl06.copyOf s p m = none) (hcnt : c.count = 0 → c.answer = 0) (hpm : p < 5 ∧ ∃ x, s.meetings[m]? = some x ∧ p ≠ x.host)
    (ha : H a = none) (hw : H wa = some (.ins C.w dw (wf (wordOf p m hh c)))) (hfr : ∀ b o, H b = some o → b ≠ L.dc → H' b = some o) (hdc : H' L.dc = some (.dT (copiesV L ++ [(keyOf p m, V.ref a)]))) (hnew : At H' a (.ins C.c (cf wa c))) :
    Stp C H L s H' (L.newCopy p m a wa) (Cl06.setCopy s p m c) := by
  have G := R.good
  have fdc : Foot C L s L.dc := ⟨.dc, rfl, rfl⟩
  have cc : ∀ p' m', cont C (L.newCopy p m a wa) (Cl06.setCopy s p m c) (.copy p' m') = if p' = p ∧ m' = m then some (.ins C.c (cf wa c)) else cont C L s (.copy p' m') := fun p' m' => by
    show (Cl06.copyOf (Cl06.setCopy s p m c) p' m').map (fun d => Cl.ins C.c (cf (if p' = p ∧ m' = m then wa else L.wa p' m') d)) = _
    rw [copyOf_set]
    by_cases e : p' = p ∧ m' = m
    · rw [if_pos e, if_pos e, if_pos e]; rfl
    · rw [if_neg e, if_neg e, if_neg e]; rfl
  have hv : copiesV (L.newCopy p m a wa) = copiesV L ++ [(keyOf p m, V.ref a)] := by
    unfold copiesV
    show (L.ck ++ [(p, m)]).map (fun k => (keyOf k.1 k.2, V.ref (if k.1 = p ∧ k.2 = m then a else L.ca k.1 k.2))) = _
    rw [List.map_append]
    congr 1
    · apply List.map_congr_left
      intro k hk
      have : ¬ (k.1 = p ∧ k.2 = m) := fun q => by
        have h2 := (R.keys p m).mp (by rw [← q.1, ← q.2]; exact hk)
        rw [hc] at h2
        cases h2
      rw [if_neg this]
    · simp
  refine Stp.more (fun y => y = .copy p m) (A := A) (R := R) (fun b o e n => hfr b o e fun q => n (q ▸ fdc)) (fun y d h => ?_) (fun y hy h => ?_) (fun y hy _ => ?_) (fun y z hy hz _ _ _ => by rw [hy, hz]) R.llen R.lets (fun p' m' d h => ?_) (fun p' m' => ?_) ?_ (G.copy hcnt hpm)
  · cases y with
    | copy p' m' =>
      rw [cc] at h
      show At H' (if p' = p ∧ m' = m then a else L.ca p' m') d
      by_cases e : p' = p ∧ m' = m
      · rw [if_pos e] at h ⊢
        cases h
        exact hnew
      · rw [if_neg e] at h ⊢
        exact R.stay (x := .dc) rfl h (by intro q; cases q) hfr
    | dc =>
      cases h
      show H' L.dc = _
      rw [hdc, hv]
    | w => exact R.stay (x := .dc) (y := .w) rfl h (by intro q; cases q) hfr
    | lm => exact R.stay (x := .dc) (y := .lm) rfl h (by intro q; cases q) hfr
    | ll => exact R.stay (x := .dc) (y := .ll) rfl h (by intro q; cases q) hfr
    | meet i => exact R.stay (x := .dc) (y := .meet i) rfl h (by intro q; cases q) hfr
    | gl i => exact R.stay (x := .dc) (y := .gl i) rfl h (by intro q; cases q) hfr
    | guest i j => exact R.stay (x := .dc) (y := .guest i j) rfl h (by intro q; cases q) hfr
  · cases y with
    | copy p' m' =>
      have e : ¬ (p' = p ∧ m' = m) := fun q => hy (by rw [q.1, q.2])
      rw [cc, if_neg e] at h
      exact ⟨h, show (if p' = p ∧ m' = m then a else L.ca p' m') = _ by rw [if_neg e]; rfl⟩
    | _ => exact ⟨h, rfl⟩
  · subst hy
    show H (if p = p ∧ m = m then a else L.ca p m) = none
    rw [if_pos ⟨rfl, rfl⟩]
    exact ha
  · rw [copyOf_set] at h
    show ∃ h dx, H (if p' = p ∧ m' = m then wa else L.wa p' m') = _
    by_cases e : p' = p ∧ m' = m
    · rw [if_pos e] at h ⊢
      cases h
      obtain ⟨rfl, rfl⟩ := e
      exact ⟨hh, dw, hw⟩
    · rw [if_neg e] at h ⊢
      exact R.wrd p' m' d h
  · show (p', m') ∈ L.ck ++ [(p, m)] ↔ _
    rw [copyOf_set, List.mem_append]
    by_cases e : p' = p ∧ m' = m
    · rw [if_pos e]
      obtain ⟨rfl, rfl⟩ := e
      exact ⟨fun _ => rfl, fun _ => .inr (by simp)⟩
    · rw [if_neg e, ← R.keys p' m']
      refine ⟨fun q => ?_, .inl⟩
      rcases q with q | q
      · exact q
      · simp at q
        exact absurd q e
  · show (L.ck ++ [(p, m)]).Nodup
    refine List.nodup_append.mpr ⟨R.knd, by simp, fun x hx y hy q => ?_⟩
    simp at hy
    subst q
    subst hy
    have := (R.keys p m).mp hx
    rw [hc] at this
    cases this
/-! ### a new guest of a meeting -/
def Lay.newGuest (L : Lay) (i n : Nat) (a : Addr) : Lay := { L with ga := fun i' j => if i' = i ∧ j = n then a else L.ga i' j }
theorem Stp.newGuest (A : C.Apart) (R : Rep C H L s) {i : Nat} {x : Cl06.Meeting} {g : Cl06.Guest} {a : Addr} (hx : s.meetings[i]? = some x) (hw : g.who ∉ x.guests.map (·.who)) (h5 : g.who < 5 ∧ g.who ≠ x.host)
    (ha : H a = none) (hfr : ∀ b o, H b = some o → b ≠ L.gl i → H' b = some o) (hgl : H' (L.gl i) = some (.lst (guestsV L i x.guests.length ++ [V.ref a]))) (hnew : At H' a (.ins C.g (gf g))) :
    Stp C H L s H' (L.newGuest i x.guests.length a) (Cl06.setMeeting s i { x with guests := x.guests ++ [g] }) := by
  have G := R.good
  have gm : ∀ k, (Cl06.setMeeting s i { x with guests := x.guests ++ [g] }).meetings[k]? = if i = k then some { x with guests := x.guests ++ [g] } else s.meetings[k]? := fun k => get_set hx
  have glen : (Cl06.setMeeting s i { x with guests := x.guests ++ [g] }).meetings.length = s.meetings.length := List.length_set
  have cgl : cont C L s (.gl i) = some (.lst (guestsV L i x.guests.length)) := by
    show s.meetings[i]?.map _ = _
    rw [hx]; rfl
  have fgl : Foot C L s (L.gl i) := ⟨.gl i, by rw [cgl]; rfl, rfl⟩
  have gv : ∀ k n, ¬ (k = i ∧ x.guests.length < n) → guestsV (L.newGuest i x.guests.length a) k n = guestsV L k n := fun k n h => by
    unfold guestsV
    apply List.map_congr_left
    intro j hj
    have hj := List.mem_range.mp hj
    show V.ref (if k = i ∧ j = x.guests.length then a else L.ga k j) = _
    rw [if_neg fun q => h ⟨q.1, by omega⟩]
  have G' : Gd (Cl06.setMeeting s i { x with guests := x.guests ++ [g] }) := by
    refine ⟨by rw [glen]; exact G.few, fun k y h => ?_, fun k y z h hz => ?_, G.room, fun l h1 => ⟨by rw [glen]; exact (G.lets l h1).1, fun h2 => ⟨((G.lets l h1).2 h2).1, fun y h3 => ?_⟩⟩, G.cnt, fun p m c h => ⟨(G.cop p m c h).1, ?_⟩⟩
    · rw [gm] at h
      by_cases e : i = k
      · rw [if_pos e] at h
        cases h
        show ((x.guests ++ [g]).map (·.who)).Nodup
        rw [List.map_append]
        refine List.nodup_append.mpr ⟨G.nd i x hx, by simp, fun u hu v hv q => ?_⟩
        simp at hv
        subst q
        rw [hv] at hu
        exact hw hu
      · rw [if_neg e] at h
        exact G.nd k y h
    · rw [gm] at h
      by_cases e : i = k
      · rw [if_pos e] at h
        cases h
        rcases List.mem_append.mp hz with q | q
        · exact G.who i x z hx q
        · simp at q
          subst q
          exact h5
      · rw [if_neg e] at h
        exact G.who k y z h hz
    · rw [gm] at h3
      by_cases e : i = l.meeting
      · rw [if_pos e] at h3
        cases h3
        exact ((G.lets l h1).2 h2).2 x (by rw [← e]; exact hx)
      · rw [if_neg e] at h3
        exact ((G.lets l h1).2 h2).2 y h3
    · obtain ⟨_, y, h1, h2⟩ := G.cop p m c h
      by_cases e : i = m
      · subst e
        rw [hx] at h1
        cases h1
        exact ⟨{ x with guests := x.guests ++ [g] }, by rw [gm, if_pos rfl], h2⟩
      · exact ⟨y, by rw [gm, if_neg e]; exact h1, h2⟩
  have cg : ∀ k l, cont C (L.newGuest i x.guests.length a) (Cl06.setMeeting s i { x with guests := x.guests ++ [g] }) (.guest k l) = if k = i ∧ l = x.guests.length then some (.ins C.g (gf g)) else cont C L s (.guest k l) := fun k l => by
    show (Cl06.setMeeting s i _).meetings[k]?.bind _ = if _ then _ else s.meetings[k]?.bind _
    rw [gm]
    by_cases e : i = k
    · subst e
      rw [if_pos rfl, hx]
      show (x.guests ++ [g])[l]?.map _ = if _ then _ else x.guests[l]?.map _
      by_cases e2 : l = x.guests.length
      · subst e2
        rw [if_pos ⟨rfl, rfl⟩]
        simp
      · rw [if_neg fun q => e2 q.2]
        by_cases e3 : l < x.guests.length
        · rw [List.getElem?_append_left e3]
        · rw [List.getElem?_eq_none (by simp; omega), List.getElem?_eq_none (by omega)]
    · rw [if_neg e, if_neg fun q => e q.1.symm]
  refine Stp.more (fun y => y = .guest i x.guests.length) (A := A) (R := R) (fun b o e n => hfr b o e fun q => n (q ▸ fgl)) (fun y d h => ?_) (fun y hy h => ?_) (fun y hy _ => ?_) (fun y z hy hz _ _ _ => by rw [hy, hz]) R.llen R.lets R.wrd R.keys R.knd G'
  · cases y with
    | guest k l =>
      rw [cg] at h
      show At H' (if k = i ∧ l = x.guests.length then a else L.ga k l) d
      by_cases e : k = i ∧ l = x.guests.length
      · rw [if_pos e] at h ⊢
        cases h
        exact hnew
      · rw [if_neg e] at h ⊢
        exact R.stay (x := .gl i) (y := .guest k l) cgl h (by intro q; cases q) hfr
    | gl k =>
      have h : (Cl06.setMeeting s i { x with guests := x.guests ++ [g] }).meetings[k]?.map (fun y => Cl.lst (guestsV (L.newGuest i x.guests.length a) k y.guests.length)) = some d := h
      rw [gm] at h
      by_cases e : i = k
      · subst e
        rw [if_pos rfl] at h
        cases h
        show H' (L.gl i) = some (.lst (guestsV (L.newGuest i x.guests.length a) i (x.guests ++ [g]).length))
        rw [hgl]
        congr 2
        rw [List.length_append, List.length_singleton]
        have e1 : guestsV (L.newGuest i x.guests.length a) i (x.guests.length + 1) = guestsV (L.newGuest i x.guests.length a) i x.guests.length ++ [V.ref a] := by
          unfold guestsV
          rw [List.range_succ, List.map_append]
          show _ ++ [V.ref (if i = i ∧ x.guests.length = x.guests.length then a else _)] = _
          rw [if_pos ⟨rfl, rfl⟩]
        rw [e1, gv i _ (fun q => by omega)]
      · rw [if_neg e] at h
        have e2 : ∀ n, guestsV (L.newGuest i x.guests.length a) k n = guestsV L k n := fun n => gv k n fun q => e q.1.symm
        refine R.stay (x := .gl i) (y := .gl k) cgl ?_ (by intro q; cases q; exact e rfl) hfr
        show s.meetings[k]?.map _ = _
        rw [← h]
        congr 1
        funext y
        rw [e2]
    | meet k =>
      refine R.stay (x := .gl i) (y := .meet k) cgl ?_ (by intro q; cases q) hfr
      have h : (Cl06.setMeeting s i { x with guests := x.guests ++ [g] }).meetings[k]?.map _ = some d := h
      rw [gm] at h
      show s.meetings[k]?.map _ = _
      by_cases e : i = k
      · subst e; rw [if_pos rfl] at h; rw [hx, ← h]; rfl
      · rw [if_neg e] at h; exact h
    | lm =>
      refine R.stay (x := .gl i) (y := .lm) cgl ?_ (by intro q; cases q) hfr
      rw [← h]
      show some (Cl.lst (meetsV L s.meetings.length)) = some (Cl.lst (meetsV _ (Cl06.setMeeting s i _).meetings.length))
      rw [glen]
      rfl
    | w => exact R.stay (x := .gl i) (y := .w) cgl h (by intro q; cases q) hfr
    | dc => exact R.stay (x := .gl i) (y := .dc) cgl h (by intro q; cases q) hfr
    | ll => exact R.stay (x := .gl i) (y := .ll) cgl h (by intro q; cases q) hfr
    | copy p m => exact R.stay (x := .gl i) (y := .copy p m) cgl h (by intro q; cases q) hfr
  · have mk : ∀ k, ((Cl06.setMeeting s i { x with guests := x.guests ++ [g] }).meetings[k]?).isSome → (s.meetings[k]?).isSome := fun k q => by
      rw [gm] at q
      by_cases e : i = k
      · subst e; rw [hx]; rfl
      · rw [if_neg e] at q; exact q
    cases y with
    | guest k l =>
      have e : ¬ (k = i ∧ l = x.guests.length) := fun q => hy (by rw [q.1, q.2])
      rw [cg, if_neg e] at h
      exact ⟨h, show (if k = i ∧ l = x.guests.length then a else L.ga k l) = _ by rw [if_neg e]; rfl⟩
    | gl k =>
      refine ⟨?_, rfl⟩
      show (s.meetings[k]?.map _).isSome
      rw [Option.isSome_map]
      exact mk k (by rw [← Option.isSome_map]; exact h)
    | meet k =>
      refine ⟨?_, rfl⟩
      show (s.meetings[k]?.map _).isSome
      rw [Option.isSome_map]
      exact mk k (by rw [← Option.isSome_map]; exact h)
    | _ => exact ⟨h, rfl⟩
  · subst hy
    show H (if i = i ∧ x.guests.length = x.guests.length then a else _) = none
    rw [if_pos ⟨rfl, rfl⟩]
    exact ha
end Cw
end

section
set_option Elab.async false
set_option linter.all false
set_option maxRecDepth 100000
set_option maxHeartbeats 2000000
namespace Cw
open PySem PySem.Spec PyProof.Rows L2
variable {C : Cs} {H H' H1 H2 : Hp} {L L' L1 L2 : Lay} {s s' s1 s2 : Cl06.State}
/-! ### a new meeting -/
def Lay.newMeeting (L : Lay) (n : Nat) (a gl : Addr) (gs : List Addr) : Lay := { L with ma := fun i => if i = n then a else L.ma i, gl := fun i => if i = n then gl else L.gl i, ga := fun i j => if i = n then gs.getD j 0 else L.ga i j }
theorem Gd.newMeeting (G : Gd s) {x : Cl06.Meeting} (h6 : s.meetings.length < 6) (hn : (x.guests.map (·.who)).Nodup) (hw : ∀ g ∈ x.guests, g.who < 5 ∧ g.who ≠ x.host) : Gd { s with meetings := s.meetings ++ [x] } := by
  have gm : ∀ (k : Nat) (y : Cl06.Meeting), (s.meetings ++ [x])[k]? = some y → s.meetings[k]? = some y ∨ y = x := fun k y h => by
    by_cases e : k < s.meetings.length
    · rw [List.getElem?_append_left e] at h
      exact .inl h
    · rw [List.getElem?_append_right (by omega)] at h
      have := List.mem_of_getElem? h
      simp at this
      exact .inr this
  have go : ∀ (k : Nat) (y : Cl06.Meeting), s.meetings[k]? = some y → (s.meetings ++ [x])[k]? = some y := fun k y h => by
    rw [List.getElem?_append_left (List.getElem?_eq_some_iff.mp h).1]
    exact h
  refine ⟨by simp; omega, fun k y h => ?_, fun k y g h hg => ?_, G.room, fun l h => ⟨?_, fun h2 => ⟨((G.lets l h).2 h2).1, fun y h3 => ?_⟩⟩, G.cnt, fun p m c h => ⟨(G.cop p m c h).1, ?_⟩⟩
  · rcases gm k y h with q | rfl
    · exact G.nd k y q
    · exact hn
  · rcases gm k y h with q | rfl
    · exact G.who k y g q hg
    · exact hw g hg
  · have := (G.lets l h).1
    show l.meeting < (s.meetings ++ [x]).length
    simp
    omega
  · have q := (G.lets l h).1
    have h3 : (s.meetings ++ [x])[l.meeting]? = some y := h3
    rw [List.getElem?_append_left q] at h3
    exact ((G.lets l h).2 h2).2 y h3
  · obtain ⟨_, y, h1, h2⟩ := G.cop p m c h
    exact ⟨y, go m y h1, h2⟩
theorem Stp.newMeeting (A : C.Apart) (R : Rep C H L s) {x : Cl06.Meeting} {a gl : Addr} {gs : List Addr} (h6 : s.meetings.length < 6) (hn : (x.guests.map (·.who)).Nodup) (hw : ∀ g ∈ x.guests, g.who < 5 ∧ g.who ≠ x.host)
    (ha : H a = none) (hgl : H gl = none) (hgs : ∀ b ∈ gs, H b = none) (gnd : gs.Nodup) (glen : gs.length = x.guests.length)
    (hfr : ∀ b o, H b = some o → b ≠ L.lm → H' b = some o) (hlm : H' L.lm = some (.lst (meetsV L s.meetings.length ++ [V.ref a])))
    (na : At H' a (.ins C.m (mf s.meetings.length gl x))) (ngl : H' gl = some (.lst (gs.map V.ref))) (ngs : ∀ (j : Nat) b g, gs[j]? = some b → x.guests[j]? = some g → At H' b (.ins C.g (gf g))) :
    Stp C H L s H' (L.newMeeting s.meetings.length a gl gs) { s with meetings := s.meetings ++ [x] } := by
  have G := R.good
  have flm : Foot C L s L.lm := ⟨.lm, rfl, rfl⟩
  have gn : (s.meetings ++ [x])[s.meetings.length]? = some x := by simp
  have go : ∀ k : Nat, k ≠ s.meetings.length → (s.meetings ++ [x])[k]? = s.meetings[k]? := fun k h => by
    by_cases e : k < s.meetings.length
    · exact List.getElem?_append_left e
    · rw [List.getElem?_eq_none (by simp; omega), List.getElem?_eq_none (by omega)]
  have gat : ∀ (j : Nat) g, x.guests[j]? = some g → ∃ b, gs[j]? = some b ∧ gs.getD j 0 = b := fun j g h => by
    have hj : j < gs.length := by rw [glen]; exact (List.getElem?_eq_some_iff.mp h).1
    refine ⟨gs[j], List.getElem?_eq_getElem hj, ?_⟩
    rw [List.getD_eq_getElem?_getD, List.getElem?_eq_getElem hj]
    rfl
  have gv : guestsV (L.newMeeting s.meetings.length a gl gs) s.meetings.length x.guests.length = gs.map V.ref := by
    unfold guestsV
    rw [← glen]
    apply List.ext_getElem
    · simp
    · intro j h1 h2
      simp at h1 h2
      simp [Lay.newMeeting, List.getElem?_eq_getElem h2]
  have gvo : ∀ k n, k ≠ s.meetings.length → guestsV (L.newMeeting s.meetings.length a gl gs) k n = guestsV L k n := fun k n h => by
    unfold guestsV
    apply List.map_congr_left
    intro j _
    show V.ref (if k = s.meetings.length then gs.getD j 0 else L.ga k j) = _
    rw [if_neg h]
  have mv : meetsV (L.newMeeting s.meetings.length a gl gs) (s.meetings.length + 1) = meetsV L s.meetings.length ++ [V.ref a] := by
    unfold meetsV
    rw [List.range_succ, List.map_append]
    congr 1
    · apply List.map_congr_left
      intro j hj
      have := List.mem_range.mp hj
      show V.ref (if j = s.meetings.length then a else L.ma j) = _
      rw [if_neg (by omega)]
    · show [V.ref (if s.meetings.length = s.meetings.length then a else _)] = _
      rw [if_pos rfl]
  have stay : ∀ {y : Ix} {d : Cl}, cont C L s y = some d → y ≠ .lm → At H' (addr L y) d := fun {y d} h n => R.stay (x := .lm) (y := y) rfl h n hfr
  have a1 : a ≠ gl := fun e => by
    obtain ⟨dx, q⟩ := na
    rw [e, ngl] at q
    cases q
  have a2 : ∀ (j : Nat) b g, gs[j]? = some b → x.guests[j]? = some g → a ≠ b ∧ gl ≠ b := fun j b g h1 h2 => by
    obtain ⟨dx, q⟩ := ngs j b g h1 h2
    obtain ⟨dy, q2⟩ := na
    refine ⟨fun e => ?_, fun e => ?_⟩
    · rw [e, q] at q2
      injection q2 with q2
      injection q2 with q3
      exact A.mg q3.symm
    · rw [e, q] at ngl
      cases ngl
  refine Stp.more (fun y => y = .meet s.meetings.length ∨ y = .gl s.meetings.length ∨ ∃ j, y = .guest s.meetings.length j) (A := A) (R := R) (fun b o e n => hfr b o e fun q => n (q ▸ flm)) (fun y d h => ?_) (fun y hy h => ?_) (fun y hy h => ?_) (fun y z hy hz h1 h2 e => ?_)
    R.llen R.lets R.wrd R.keys R.knd (G.newMeeting h6 hn hw)
  · cases y with
    | w => exact stay (y := .w) h (by intro q; cases q)
    | dc => exact stay (y := .dc) h (by intro q; cases q)
    | ll => exact stay (y := .ll) h (by intro q; cases q)
    | copy p m => exact stay (y := .copy p m) h (by intro q; cases q)
    | lm =>
      have h : some (Cl.lst (meetsV (L.newMeeting s.meetings.length a gl gs) (s.meetings ++ [x]).length)) = some d := h
      cases h
      show H' L.lm = _
      rw [hlm, List.length_append, List.length_singleton, mv]
    | meet k =>
      have h : (s.meetings ++ [x])[k]?.map (fun y => Cl.ins C.m (mf k (if k = s.meetings.length then gl else L.gl k) y)) = some d := h
      show At H' (if k = s.meetings.length then a else L.ma k) d
      by_cases e : k = s.meetings.length
      · subst e
        rw [gn] at h
        rw [if_pos rfl] at h ⊢
        cases h
        exact na
      · rw [go k e] at h
        rw [if_neg e] at h ⊢
        exact stay (y := .meet k) h (by intro q; cases q)
    | gl k =>
      have h : (s.meetings ++ [x])[k]?.map (fun y => Cl.lst (guestsV (L.newMeeting s.meetings.length a gl gs) k y.guests.length)) = some d := h
      show At H' (if k = s.meetings.length then gl else L.gl k) d
      by_cases e : k = s.meetings.length
      · subst e
        rw [gn] at h
        rw [if_pos rfl]
        have h : some (Cl.lst (guestsV (L.newMeeting s.meetings.length a gl gs) s.meetings.length x.guests.length)) = some d := h
        rw [gv] at h
        cases h
        exact ngl
      · rw [go k e] at h
        rw [if_neg e]
        refine stay (y := .gl k) ?_ (by intro q; cases q)
        rw [← h]
        show s.meetings[k]?.map _ = _
        congr 1
        funext y
        rw [gvo k _ e]
    | guest k l =>
      have h : (s.meetings ++ [x])[k]?.bind (fun y => y.guests[l]?.map fun g => Cl.ins C.g (gf g)) = some d := h
      show At H' (if k = s.meetings.length then gs.getD l 0 else L.ga k l) d
      by_cases e : k = s.meetings.length
      · subst e
        rw [gn] at h
        rw [if_pos rfl]
        obtain ⟨g, h1, h2⟩ := Option.map_eq_some_iff.mp (show x.guests[l]?.map (fun g => Cl.ins C.g (gf g)) = some d from h)
        cases h2
        obtain ⟨b, hb, eb⟩ := gat l g h1
        rw [eb]
        exact ngs l b g hb h1
      · rw [go k e] at h
        rw [if_neg e]
        exact stay (y := .guest k l) h (by intro q; cases q)
  · have nk : ∀ k, k ≠ s.meetings.length → (s.meetings ++ [x])[k]? = s.meetings[k]? := go
    cases y with
    | meet k =>
      have e : k ≠ s.meetings.length := fun q => hy (.inl (by rw [q]))
      refine ⟨?_, show (if k = s.meetings.length then a else L.ma k) = _ by rw [if_neg e]; rfl⟩
      show (s.meetings[k]?.map _).isSome
      have h : ((s.meetings ++ [x])[k]?.map _).isSome := h
      rw [Option.isSome_map] at h ⊢
      rw [← go k e]
      exact h
    | gl k =>
      have e : k ≠ s.meetings.length := fun q => hy (.inr (.inl (by rw [q])))
      refine ⟨?_, show (if k = s.meetings.length then gl else L.gl k) = _ by rw [if_neg e]; rfl⟩
      show (s.meetings[k]?.map _).isSome
      have h : ((s.meetings ++ [x])[k]?.map _).isSome := h
      rw [Option.isSome_map] at h ⊢
      rw [← go k e]
      exact h
    | guest k l =>
      have e : k ≠ s.meetings.length := fun q => hy (.inr (.inr ⟨l, by rw [q]⟩))
      refine ⟨?_, show (if k = s.meetings.length then gs.getD l 0 else L.ga k l) = _ by rw [if_neg e]; rfl⟩
      have h : ((s.meetings ++ [x])[k]?.bind fun y => y.guests[l]?.map fun g => Cl.ins C.g (gf g)).isSome := h
      rw [go k e] at h
      exact h
    | _ => exact ⟨h, rfl⟩
  · rcases hy with rfl | rfl | ⟨j, rfl⟩
    · show H (if s.meetings.length = s.meetings.length then a else _) = none
      rw [if_pos rfl]; exact ha
    · show H (if s.meetings.length = s.meetings.length then gl else _) = none
      rw [if_pos rfl]; exact hgl
    · show H (if s.meetings.length = s.meetings.length then gs.getD j 0 else _) = none
      rw [if_pos rfl]
      have h : ((s.meetings ++ [x])[s.meetings.length]?.bind fun y => y.guests[j]?.map fun g => Cl.ins C.g (gf g)).isSome := h
      rw [gn] at h
      obtain ⟨d, hd⟩ := Option.isSome_iff_exists.mp h
      obtain ⟨g, h1, h2⟩ := Option.map_eq_some_iff.mp (show x.guests[j]?.map (fun g => Cl.ins C.g (gf g)) = some d from hd)
      obtain ⟨b, hb, eb⟩ := gat j g h1
      rw [eb]
      exact hgs b (List.mem_of_getElem? hb)
  · have gj : ∀ j, (cont C (L.newMeeting s.meetings.length a gl gs) { s with meetings := s.meetings ++ [x] } (.guest s.meetings.length j)).isSome → ∃ b g, gs[j]? = some b ∧ x.guests[j]? = some g ∧ addr (L.newMeeting s.meetings.length a gl gs) (.guest s.meetings.length j) = b := fun j h => by
      have h : ((s.meetings ++ [x])[s.meetings.length]?.bind fun y => y.guests[j]?.map fun g => Cl.ins C.g (gf g)).isSome := h
      rw [gn] at h
      obtain ⟨d, hd⟩ := Option.isSome_iff_exists.mp h
      obtain ⟨g, h1, h2⟩ := Option.map_eq_some_iff.mp (show x.guests[j]?.map (fun g => Cl.ins C.g (gf g)) = some d from hd)
      obtain ⟨b, hb, eb⟩ := gat j g h1
      refine ⟨b, g, hb, h1, ?_⟩
      show (if s.meetings.length = s.meetings.length then gs.getD j 0 else _) = b
      rw [if_pos rfl]; exact eb
    have am : addr (L.newMeeting s.meetings.length a gl gs) (.meet s.meetings.length) = a := by
      show (if s.meetings.length = s.meetings.length then a else _) = a
      rw [if_pos rfl]
    have ag : addr (L.newMeeting s.meetings.length a gl gs) (.gl s.meetings.length) = gl := by
      show (if s.meetings.length = s.meetings.length then gl else _) = gl
      rw [if_pos rfl]
    rcases hy with rfl | rfl | ⟨j, rfl⟩
    · rcases hz with rfl | rfl | ⟨k, rfl⟩
      · rfl
      · rw [am, ag] at e; exact absurd e a1
      · obtain ⟨b, g, q1, q2, q3⟩ := gj k h2
        rw [am, q3] at e; exact absurd e (a2 k b g q1 q2).1
    · rcases hz with rfl | rfl | ⟨k, rfl⟩
      · rw [am, ag] at e; exact absurd e.symm a1
      · rfl
      · obtain ⟨b, g, q1, q2, q3⟩ := gj k h2
        rw [ag, q3] at e; exact absurd e (a2 k b g q1 q2).2
    · obtain ⟨b, g, q1, q2, q3⟩ := gj j h1
      rcases hz with rfl | rfl | ⟨k, rfl⟩
      · rw [am, q3] at e; exact absurd e.symm (a2 j b g q1 q2).1
      · rw [ag, q3] at e; exact absurd e.symm (a2 j b g q1 q2).2
      · obtain ⟨b', g', q4, q5, q6⟩ := gj k h2
        rw [q3, q6] at e
        subst e
        rw [nd_ix gnd q1 q4]
/-! ### sending -/
theorem send_lt {l : Cl06.Letter} (h : s.letters.length < 100) : Cl06.send s [l] = { s with letters := s.letters ++ [l] } := by
  unfold Cl06.send
  rw [List.take_of_length_le (by simp [Cl06.ROOM]; omega)]
theorem send_full {l : List Cl06.Letter} (h : s.letters.length = 100) : Cl06.send s l = s := by
  unfold Cl06.send
  rw [List.take_append_of_le_length (by simp [Cl06.ROOM]; omega), List.take_of_length_le (by simp [Cl06.ROOM]; omega)]
theorem send_nil (h : s.letters.length ≤ 100) : Cl06.send s [] = s := by
  unfold Cl06.send
  rw [List.append_nil, List.take_of_length_le (by simp [Cl06.ROOM]; omega)]
theorem send_send (a b : List Cl06.Letter) : Cl06.send (Cl06.send s a) b = Cl06.send s (a ++ b) := by
  unfold Cl06.send
  congr 1
  rw [← List.append_assoc]
  exact take_take_app _ _ _
end Cw
end

section
set_option Elab.async false
set_option linter.all false
set_option maxRecDepth 100000
set_option maxHeartbeats 2000000
namespace Cw
open PySem PySem.Spec PyProof.Rows L2
theorem pe_ci {X : Cx} {x : Str} {z : Int} {pos : Pos} (hg : Gl X x) (h : ∃ t, X.mg x = some (Value.int z t)) (hd : (x == ("__debug__" : Str)) = false := by decide) : PE X (.Name x pos) (tC (.int z)) :=
  let ⟨t, e⟩ := h
  pe_glob (v := .int z) hg e ⟨t, rfl⟩ hd
def intOf : Value → Option Int
  | .int i _ => some i
  | _ => none
def refOf : Value → Option Addr
  | .ref a => some a
  | _ => none
theorem pe_fldK {X : Cx} {K : PySem.W.Frag} {e : Expr} {f : Str} {pos : Pos} {ta : TE} (hK : X.K = K) (he : PE X e ta) (hb : attributeBase e f X.env (eval e X.env) = eval e X.env) : PE X (.Attribute e f pos) (tFld K ta f) := by
  subst hK
  exact pe_fld he hb
/-! ### the text by places -/
def top (i : Nat) : Stmt := PySem.Challenge.pw_crossedletters_s01_answers.main.body.getD i (.Pass ⟨0, 0, 0, 0⟩)
abbrev s_Guest_init : Stmt := inClass (top 14) 0
abbrev s_Meeting_init : Stmt := inClass (top 15) 0
abbrev s_Meeting_guest_of : Stmt := inClass (top 15) 1
abbrev s_Meeting_asked_guest_of : Stmt := inClass (top 15) 2
abbrev s_Meeting_asked_guests : Stmt := inClass (top 15) 3
abbrev s_Word_init : Stmt := inClass (top 16) 0
abbrev s_Word_row : Stmt := inClass (top 16) 1
abbrev s_Answer_init : Stmt := inClass (top 17) 0
abbrev s_Answer_row : Stmt := inClass (top 17) 1
abbrev s_Copy_init : Stmt := inClass (top 18) 0
abbrev s_Copy_hear : Stmt := inClass (top 18) 1
abbrev s_Copy_invites : Stmt := inClass (top 18) 2
abbrev s_World_init : Stmt := inClass (top 19) 0
abbrev s_World_copy_of : Stmt := inClass (top 19) 1
abbrev s_World_send : Stmt := inClass (top 19) 2
abbrev s_World_tell : Stmt := inClass (top 19) 3
abbrev s_World_tell_asked : Stmt := inClass (top 19) 4
abbrev s_World_add_meeting : Stmt := inClass (top 19) 5
abbrev s_World_move : Stmt := inClass (top 19) 6
abbrev s_World_hand_over : Stmt := inClass (top 19) 7
abbrev s_World_hand_over_word : Stmt := inClass (top 19) 8
abbrev s_World_hand_over_answer : Stmt := inClass (top 19) 9
abbrev s_is_meeting : Stmt := top 31
abbrev s_is_letter : Stmt := top 32
abbrev s_refusal_to_change : Stmt := top 33
abbrev s_may_meet : Stmt := top 34
abbrev s_new_meeting : Stmt := top 35
abbrev s_move_meeting : Stmt := top 36
abbrev s_call_off : Stmt := top 37
abbrev s_ask_person : Stmt := top 38
abbrev s_take_off_person : Stmt := top 39
abbrev s_give_answer : Stmt := top 40
abbrev s_grant_wish : Stmt := top 41
abbrev s_nudge_guests : Stmt := top 42
abbrev s_press_answer : Stmt := top 43
abbrev s_take_letter : Stmt := top 44
abbrev s_keep_letter : Stmt := top 45
abbrev s_lose_letter : Stmt := top 46
abbrev s_show_letters : Stmt := top 47
abbrev s_show_host : Stmt := top 48
abbrev s_show_copy : Stmt := top 49
abbrev s_row_for : Stmt := top 50
abbrev s_show_person : Stmt := top 51
abbrev s_end_of_call : Stmt := top 53
abbrev s_answers : Stmt := top 54
theorem sc_Guest_init : FnScope ["self", "person"] ["self", "person"] (defScope s_Guest_init) := ⟨rfl, rfl, rfl, by decide +kernel, rfl, by decide +kernel, by decide +kernel⟩
theorem sc_Meeting_init : FnScope ["self", "number", "host", "time", "people", "person"] ["self", "number", "host", "time", "people"] (defScope s_Meeting_init) := ⟨rfl, rfl, rfl, by decide +kernel, rfl, by decide +kernel, by decide +kernel⟩
theorem sc_Meeting_guest_of : FnScope ["self", "person", "guest"] ["self", "person"] (defScope s_Meeting_guest_of) := ⟨rfl, rfl, rfl, by decide +kernel, rfl, by decide +kernel, by decide +kernel⟩
theorem sc_Meeting_asked_guest_of : FnScope ["self", "person", "guest"] ["self", "person"] (defScope s_Meeting_asked_guest_of) := ⟨rfl, rfl, rfl, by decide +kernel, rfl, by decide +kernel, by decide +kernel⟩
theorem sc_Meeting_asked_guests : FnScope ["self", "guest"] ["self"] (defScope s_Meeting_asked_guests) := ⟨rfl, rfl, rfl, by decide +kernel, rfl, by decide +kernel, by decide +kernel⟩
theorem sc_Word_init : FnScope ["self", "meeting", "guest"] ["self", "meeting", "guest"] (defScope s_Word_init) := ⟨rfl, rfl, rfl, by decide +kernel, rfl, by decide +kernel, by decide +kernel⟩
theorem sc_Word_row : FnScope ["self", "head"] ["self"] (defScope s_Word_row) := ⟨rfl, rfl, rfl, by decide +kernel, rfl, by decide +kernel, by decide +kernel⟩
theorem sc_Answer_init : FnScope ["self", "meeting", "person", "copy"] ["self", "meeting", "person", "copy"] (defScope s_Answer_init) := ⟨rfl, rfl, rfl, by decide +kernel, rfl, by decide +kernel, by decide +kernel⟩
theorem sc_Answer_row : FnScope ["self", "head"] ["self"] (defScope s_Answer_row) := ⟨rfl, rfl, rfl, by decide +kernel, rfl, by decide +kernel, by decide +kernel⟩
theorem sc_Copy_init : FnScope ["self", "word"] ["self", "word"] (defScope s_Copy_init) := ⟨rfl, rfl, rfl, by decide +kernel, rfl, by decide +kernel, by decide +kernel⟩
theorem sc_Copy_hear : FnScope ["self", "word"] ["self", "word"] (defScope s_Copy_hear) := ⟨rfl, rfl, rfl, by decide +kernel, rfl, by decide +kernel, by decide +kernel⟩
theorem sc_Copy_invites : FnScope ["self"] ["self"] (defScope s_Copy_invites) := ⟨rfl, rfl, rfl, by decide +kernel, rfl, by decide +kernel, by decide +kernel⟩
theorem sc_World_init : FnScope ["self"] ["self"] (defScope s_World_init) := ⟨rfl, rfl, rfl, by decide +kernel, rfl, by decide +kernel, by decide +kernel⟩
theorem sc_World_copy_of : FnScope ["self", "person", "number"] ["self", "person", "number"] (defScope s_World_copy_of) := ⟨rfl, rfl, rfl, by decide +kernel, rfl, by decide +kernel, by decide +kernel⟩
theorem sc_World_send : FnScope ["self", "letter"] ["self", "letter"] (defScope s_World_send) := ⟨rfl, rfl, rfl, by decide +kernel, rfl, by decide +kernel, by decide +kernel⟩
theorem sc_World_tell : FnScope ["self", "meeting", "guest"] ["self", "meeting", "guest"] (defScope s_World_tell) := ⟨rfl, rfl, rfl, by decide +kernel, rfl, by decide +kernel, by decide +kernel⟩
theorem sc_World_tell_asked : FnScope ["self", "meeting", "asked", "guest"] ["self", "meeting"] (defScope s_World_tell_asked) := ⟨rfl, rfl, rfl, by decide +kernel, rfl, by decide +kernel, by decide +kernel⟩
theorem sc_World_add_meeting : FnScope ["self", "host", "time", "people", "meeting"] ["self", "host", "time", "people"] (defScope s_World_add_meeting) := ⟨rfl, rfl, rfl, by decide +kernel, rfl, by decide +kernel, by decide +kernel⟩
theorem sc_World_move : FnScope ["self", "meeting", "time", "guest"] ["self", "meeting", "time"] (defScope s_World_move) := ⟨rfl, rfl, rfl, by decide +kernel, rfl, by decide +kernel, by decide +kernel⟩
theorem sc_World_hand_over : FnScope ["self", "letter"] ["self", "letter"] (defScope s_World_hand_over) := ⟨rfl, rfl, rfl, by decide +kernel, rfl, by decide +kernel, by decide +kernel⟩
theorem sc_World_hand_over_word : FnScope ["self", "word", "copy"] ["self", "word"] (defScope s_World_hand_over_word) := ⟨rfl, rfl, rfl, by decide +kernel, rfl, by decide +kernel, by decide +kernel⟩
theorem sc_World_hand_over_answer : FnScope ["self", "letter", "meeting", "guest"] ["self", "letter"] (defScope s_World_hand_over_answer) := ⟨rfl, rfl, rfl, by decide +kernel, rfl, by decide +kernel, by decide +kernel⟩
theorem sc_is_meeting : FnScope ["world", "number"] ["world", "number"] (defScope s_is_meeting) := ⟨rfl, rfl, rfl, by decide +kernel, rfl, by decide +kernel, by decide +kernel⟩
theorem sc_is_letter : FnScope ["world", "number"] ["world", "number"] (defScope s_is_letter) := ⟨rfl, rfl, rfl, by decide +kernel, rfl, by decide +kernel, by decide +kernel⟩
theorem sc_refusal_to_change : FnScope ["world", "number"] ["world", "number"] (defScope s_refusal_to_change) := ⟨rfl, rfl, rfl, by decide +kernel, rfl, by decide +kernel, by decide +kernel⟩
theorem sc_may_meet : FnScope ["host", "time", "guests", "people"] ["host", "time", "guests"] (defScope s_may_meet) := ⟨rfl, rfl, rfl, by decide +kernel, rfl, by decide +kernel, by decide +kernel⟩
theorem sc_new_meeting : FnScope ["world", "numbers", "host", "time", "guests"] ["world", "numbers"] (defScope s_new_meeting) := ⟨rfl, rfl, rfl, by decide +kernel, rfl, by decide +kernel, by decide +kernel⟩
theorem sc_move_meeting : FnScope ["world", "numbers", "refusal", "time", "meeting"] ["world", "numbers"] (defScope s_move_meeting) := ⟨rfl, rfl, rfl, by decide +kernel, rfl, by decide +kernel, by decide +kernel⟩
theorem sc_call_off : FnScope ["world", "numbers", "refusal", "meeting"] ["world", "numbers"] (defScope s_call_off) := ⟨rfl, rfl, rfl, by decide +kernel, rfl, by decide +kernel, by decide +kernel⟩
theorem sc_ask_person : FnScope ["world", "numbers", "refusal", "meeting", "person", "guest"] ["world", "numbers"] (defScope s_ask_person) := ⟨rfl, rfl, rfl, by decide +kernel, rfl, by decide +kernel, by decide +kernel⟩
theorem sc_take_off_person : FnScope ["world", "numbers", "refusal", "meeting", "guest"] ["world", "numbers"] (defScope s_take_off_person) := ⟨rfl, rfl, rfl, by decide +kernel, rfl, by decide +kernel, by decide +kernel⟩
theorem sc_give_answer : FnScope ["world", "numbers", "person", "number", "what", "wish", "copy"] ["world", "numbers"] (defScope s_give_answer) := ⟨rfl, rfl, rfl, by decide +kernel, rfl, by decide +kernel, by decide +kernel⟩
theorem sc_grant_wish : FnScope ["world", "numbers", "refusal", "meeting", "guest"] ["world", "numbers"] (defScope s_grant_wish) := ⟨rfl, rfl, rfl, by decide +kernel, rfl, by decide +kernel, by decide +kernel⟩
theorem sc_nudge_guests : FnScope ["world", "numbers", "meeting", "guest"] ["world", "numbers"] (defScope s_nudge_guests) := ⟨rfl, rfl, rfl, by decide +kernel, rfl, by decide +kernel, by decide +kernel⟩
theorem sc_press_answer : FnScope ["world", "numbers", "person", "number", "copy"] ["world", "numbers"] (defScope s_press_answer) := ⟨rfl, rfl, rfl, by decide +kernel, rfl, by decide +kernel, by decide +kernel⟩
theorem sc_take_letter : FnScope ["world", "numbers"] ["world", "numbers"] (defScope s_take_letter) := ⟨rfl, rfl, rfl, by decide +kernel, rfl, by decide +kernel, by decide +kernel⟩
theorem sc_keep_letter : FnScope ["world", "numbers"] ["world", "numbers"] (defScope s_keep_letter) := ⟨rfl, rfl, rfl, by decide +kernel, rfl, by decide +kernel, by decide +kernel⟩
theorem sc_lose_letter : FnScope ["world", "numbers"] ["world", "numbers"] (defScope s_lose_letter) := ⟨rfl, rfl, rfl, by decide +kernel, rfl, by decide +kernel, by decide +kernel⟩
theorem sc_show_letters : FnScope ["world", "numbers", "shown", "letter"] ["world", "numbers"] (defScope s_show_letters) := ⟨rfl, rfl, rfl, by decide +kernel, rfl, by decide +kernel, by decide +kernel⟩
theorem sc_show_host : FnScope ["world", "numbers", "meeting", "sayers_of_yes", "guest", "shown"] ["world", "numbers"] (defScope s_show_host) := ⟨rfl, rfl, rfl, by decide +kernel, rfl, by decide +kernel, by decide +kernel⟩
theorem sc_show_copy : FnScope ["world", "numbers", "copy", "word", "told"] ["world", "numbers"] (defScope s_show_copy) := ⟨rfl, rfl, rfl, by decide +kernel, rfl, by decide +kernel, by decide +kernel⟩
theorem sc_row_for : FnScope ["world", "person", "meeting", "copy"] ["world", "person", "meeting"] (defScope s_row_for) := ⟨rfl, rfl, rfl, by decide +kernel, rfl, by decide +kernel, by decide +kernel⟩
theorem sc_show_person : FnScope ["world", "numbers", "person", "rows", "meeting", "row", "shown"] ["world", "numbers"] (defScope s_show_person) := ⟨rfl, rfl, rfl, by decide +kernel, rfl, by decide +kernel, by decide +kernel⟩
theorem sc_end_of_call : FnScope ["calls", "start", "end"] ["calls", "start"] (defScope s_end_of_call) := ⟨rfl, rfl, rfl, by decide +kernel, rfl, by decide +kernel, by decide +kernel⟩
theorem sc_answers : FnScope ["calls", "world", "given_back", "start", "end", "call", "answered"] ["calls"] (defScope s_answers) := ⟨rfl, rfl, rfl, by decide +kernel, rfl, by decide +kernel, by decide +kernel⟩
/-! ### what the top has made -/
structure Txt (K : PySem.W.Frag) (mg : Str → Option Value) (C : Cs) : Prop where
  cl_g : Cls K C.g
  mg_g : mg "Guest" = some (.ref C.g)
  n_g_person : NoAttr K C.g "person"
  n_g_words : NoAttr K C.g "words"
  n_g_asked : NoAttr K C.g "asked"
  n_g_counted : NoAttr K C.g "counted"
  n_g_answer : NoAttr K C.g "answer"
  n_g_wish : NoAttr K C.g "wish"
  cl_m : Cls K C.m
  mg_m : mg "Meeting" = some (.ref C.m)
  n_m_number : NoAttr K C.m "number"
  n_m_host : NoAttr K C.m "host"
  n_m_time : NoAttr K C.m "time"
  n_m_round_no : NoAttr K C.m "round_no"
  n_m_off : NoAttr K C.m "off"
  n_m_guests : NoAttr K C.m "guests"
  cl_w : Cls K C.w
  mg_w : mg "Word" = some (.ref C.w)
  n_w_guest : NoAttr K C.w "guest"
  n_w_host : NoAttr K C.w "host"
  n_w_meeting : NoAttr K C.w "meeting"
  n_w_number : NoAttr K C.w "number"
  n_w_round_no : NoAttr K C.w "round_no"
  n_w_time : NoAttr K C.w "time"
  n_w_off : NoAttr K C.w "off"
  n_w_asked : NoAttr K C.w "asked"
  cl_a : Cls K C.a
  mg_a : mg "Answer" = some (.ref C.a)
  n_a_guest : NoAttr K C.a "guest"
  n_a_host : NoAttr K C.a "host"
  n_a_meeting : NoAttr K C.a "meeting"
  n_a_number : NoAttr K C.a "number"
  n_a_round_no : NoAttr K C.a "round_no"
  n_a_what : NoAttr K C.a "what"
  n_a_wish : NoAttr K C.a "wish"
  cl_c : Cls K C.c
  mg_c : mg "Copy" = some (.ref C.c)
  n_c_word : NoAttr K C.c "word"
  n_c_given : NoAttr K C.c "given"
  n_c_answer : NoAttr K C.c "answer"
  n_c_wish : NoAttr K C.c "wish"
  cl_o : Cls K C.o
  mg_o : mg "World" = some (.ref C.o)
  n_o_meetings : NoAttr K C.o "meetings"
  n_o_copies : NoAttr K C.o "copies"
  n_o_letters : NoAttr K C.o "letters"
  k_PEOPLE : ∃ t, mg "PEOPLE" = some (Value.int 5 t)
  k_LAST_TIME : ∃ t, mg "LAST_TIME" = some (Value.int 100000 t)
  k_MOST_LETTERS : ∃ t, mg "MOST_LETTERS" = some (Value.int 100 t)
  k_NO_TIME : ∃ t, mg "NO_TIME" = some (Value.int (-1) t)
  k_NO_ANSWER : ∃ t, mg "NO_ANSWER" = some (Value.int 0 t)
  k_YES : ∃ t, mg "YES" = some (Value.int 1 t)
  k_NO : ∃ t, mg "NO" = some (Value.int 2 t)
  k_PERHAPS : ∃ t, mg "PERHAPS" = some (Value.int 3 t)
  k_WORD : ∃ t, mg "WORD" = some (Value.int 0 t)
  k_ANSWER : ∃ t, mg "ANSWER" = some (Value.int 1 t)
  k_NO_USE : ∃ t, mg "NO_USE" = some (Value.int 0 t)
  k_COPY_TOLD : ∃ t, mg "COPY_TOLD" = some (Value.int 1 t)
  k_ANSWER_COUNTS : ∃ t, mg "ANSWER_COUNTS" = some (Value.int 2 t)
  k_MOST_MEETINGS : ∃ t, mg "MOST_MEETINGS" = some (Value.int 6 t)
  k_WRONG : ∃ t, mg "WRONG" = some (Value.int (-1) t)
  k_OVER : ∃ t, mg "OVER" = some (Value.int (-2) t)
  k_NOT_THERE : ∃ t, mg "NOT_THERE" = some (Value.int (-3) t)
  k_NOT_SO : ∃ t, mg "NOT_SO" = some (Value.int (-4) t)
  k_FULL : ∃ t, mg "FULL" = some (Value.int (-5) t)
  k_NEW : ∃ t, mg "NEW" = some (Value.int 0 t)
  k_AT_GUESTS : ∃ t, mg "AT_GUESTS" = some (Value.int 3 t)
  k_IS_HOST : ∃ t, mg "IS_HOST" = some (Value.int 4 t)
  b_isinstance : mg "isinstance" = none
  b_len : mg "len" = none
  b_max : mg "max" = none
  b_set : mg "set" = none
  b_sorted : mg "sorted" = none
  apart : C.Apart
  ic_w : PySem.W.findIn K (.ref C.w) "__class__" = some (some (.builtin "object.__class__"))
  im_w : PySem.W.mroIn K C.w (.type "object") = some true
  ic_a : PySem.W.findIn K (.ref C.a) "__class__" = some (some (.builtin "object.__class__"))
  im_a : PySem.W.mroIn K C.a (.type "object") = some true
  ig : PySem.W.specialIn K (.builtin "object.__class__") "__get__" = some (some (.builtin "getset_descriptor.__get__"))
  it : PySem.W.takesIn K (.builtin "object.__class__") = some true
  is_ww : PySem.W.kitOne K (.ref C.w) (.ref C.w) = some true
  is_aw : PySem.W.kitOne K (.ref C.a) (.ref C.w) = some false
structure Ad where
  f_Guest_init : Addr
  d_Guest_init : FuncData
  f_Meeting_init : Addr
  d_Meeting_init : FuncData
  f_Meeting_guest_of : Addr
  d_Meeting_guest_of : FuncData
  f_Meeting_asked_guest_of : Addr
  d_Meeting_asked_guest_of : FuncData
  f_Meeting_asked_guests : Addr
  d_Meeting_asked_guests : FuncData
  f_Word_init : Addr
  d_Word_init : FuncData
  f_Word_row : Addr
  d_Word_row : FuncData
  f_Answer_init : Addr
  d_Answer_init : FuncData
  f_Answer_row : Addr
  d_Answer_row : FuncData
  f_Copy_init : Addr
  d_Copy_init : FuncData
  f_Copy_hear : Addr
  d_Copy_hear : FuncData
  f_Copy_invites : Addr
  d_Copy_invites : FuncData
  f_World_init : Addr
  d_World_init : FuncData
  f_World_copy_of : Addr
  d_World_copy_of : FuncData
  f_World_send : Addr
  d_World_send : FuncData
  f_World_tell : Addr
  d_World_tell : FuncData
  f_World_tell_asked : Addr
  d_World_tell_asked : FuncData
  f_World_add_meeting : Addr
  d_World_add_meeting : FuncData
  f_World_move : Addr
  d_World_move : FuncData
  f_World_hand_over : Addr
  d_World_hand_over : FuncData
  f_World_hand_over_word : Addr
  d_World_hand_over_word : FuncData
  f_World_hand_over_answer : Addr
  d_World_hand_over_answer : FuncData
  f_is_meeting : Addr
  d_is_meeting : FuncData
  f_is_letter : Addr
  d_is_letter : FuncData
  f_refusal_to_change : Addr
  d_refusal_to_change : FuncData
  f_may_meet : Addr
  d_may_meet : FuncData
  f_new_meeting : Addr
  d_new_meeting : FuncData
  f_move_meeting : Addr
  d_move_meeting : FuncData
  f_call_off : Addr
  d_call_off : FuncData
  f_ask_person : Addr
  d_ask_person : FuncData
  f_take_off_person : Addr
  d_take_off_person : FuncData
  f_give_answer : Addr
  d_give_answer : FuncData
  f_grant_wish : Addr
  d_grant_wish : FuncData
  f_nudge_guests : Addr
  d_nudge_guests : FuncData
  f_press_answer : Addr
  d_press_answer : FuncData
  f_take_letter : Addr
  d_take_letter : FuncData
  f_keep_letter : Addr
  d_keep_letter : FuncData
  f_lose_letter : Addr
  d_lose_letter : FuncData
  f_show_letters : Addr
  d_show_letters : FuncData
  f_show_host : Addr
  d_show_host : FuncData
  f_show_copy : Addr
  d_show_copy : FuncData
  f_row_for : Addr
  d_row_for : FuncData
  f_show_person : Addr
  d_show_person : FuncData
  f_end_of_call : Addr
  d_end_of_call : FuncData
  f_answers : Addr
  d_answers : FuncData
  t_SIZES : Addr
  t_CALLS : Addr
structure Env (K : PySem.W.Frag) (mg : Str → Option Value) (C : Cs) (A : Ad) : Prop where
  F_Guest_init : Fun K "__init__" "Guest.__init__" s_Guest_init A.f_Guest_init A.d_Guest_init
  b_Guest_init : Binds K A.d_Guest_init ["self", "person"] []
  M_g : Mk K C.g A.f_Guest_init
  F_Meeting_init : Fun K "__init__" "Meeting.__init__" s_Meeting_init A.f_Meeting_init A.d_Meeting_init
  b_Meeting_init : Binds K A.d_Meeting_init ["self", "number", "host", "time", "people"] []
  M_m : Mk K C.m A.f_Meeting_init
  F_Meeting_guest_of : Fun K "guest_of" "Meeting.guest_of" s_Meeting_guest_of A.f_Meeting_guest_of A.d_Meeting_guest_of
  b_Meeting_guest_of : Binds K A.d_Meeting_guest_of ["self", "person"] []
  m_Meeting_guest_of : Meth K C.m "guest_of" A.f_Meeting_guest_of
  F_Meeting_asked_guest_of : Fun K "asked_guest_of" "Meeting.asked_guest_of" s_Meeting_asked_guest_of A.f_Meeting_asked_guest_of A.d_Meeting_asked_guest_of
  b_Meeting_asked_guest_of : Binds K A.d_Meeting_asked_guest_of ["self", "person"] []
  m_Meeting_asked_guest_of : Meth K C.m "asked_guest_of" A.f_Meeting_asked_guest_of
  F_Meeting_asked_guests : Fun K "asked_guests" "Meeting.asked_guests" s_Meeting_asked_guests A.f_Meeting_asked_guests A.d_Meeting_asked_guests
  b_Meeting_asked_guests : Binds K A.d_Meeting_asked_guests ["self"] []
  m_Meeting_asked_guests : Meth K C.m "asked_guests" A.f_Meeting_asked_guests
  F_Word_init : Fun K "__init__" "Word.__init__" s_Word_init A.f_Word_init A.d_Word_init
  b_Word_init : Binds K A.d_Word_init ["self", "meeting", "guest"] []
  M_w : Mk K C.w A.f_Word_init
  F_Word_row : Fun K "row" "Word.row" s_Word_row A.f_Word_row A.d_Word_row
  b_Word_row : Binds K A.d_Word_row ["self"] []
  m_Word_row : Meth K C.w "row" A.f_Word_row
  F_Answer_init : Fun K "__init__" "Answer.__init__" s_Answer_init A.f_Answer_init A.d_Answer_init
  b_Answer_init : Binds K A.d_Answer_init ["self", "meeting", "person", "copy"] []
  M_a : Mk K C.a A.f_Answer_init
  F_Answer_row : Fun K "row" "Answer.row" s_Answer_row A.f_Answer_row A.d_Answer_row
  b_Answer_row : Binds K A.d_Answer_row ["self"] []
  m_Answer_row : Meth K C.a "row" A.f_Answer_row
  F_Copy_init : Fun K "__init__" "Copy.__init__" s_Copy_init A.f_Copy_init A.d_Copy_init
  b_Copy_init : Binds K A.d_Copy_init ["self", "word"] []
  M_c : Mk K C.c A.f_Copy_init
  F_Copy_hear : Fun K "hear" "Copy.hear" s_Copy_hear A.f_Copy_hear A.d_Copy_hear
  b_Copy_hear : Binds K A.d_Copy_hear ["self", "word"] []
  m_Copy_hear : Meth K C.c "hear" A.f_Copy_hear
  F_Copy_invites : Fun K "invites" "Copy.invites" s_Copy_invites A.f_Copy_invites A.d_Copy_invites
  b_Copy_invites : Binds K A.d_Copy_invites ["self"] []
  m_Copy_invites : Meth K C.c "invites" A.f_Copy_invites
  F_World_init : Fun K "__init__" "World.__init__" s_World_init A.f_World_init A.d_World_init
  b_World_init : Binds K A.d_World_init ["self"] []
  M_o : Mk K C.o A.f_World_init
  F_World_copy_of : Fun K "copy_of" "World.copy_of" s_World_copy_of A.f_World_copy_of A.d_World_copy_of
  b_World_copy_of : Binds K A.d_World_copy_of ["self", "person", "number"] []
  m_World_copy_of : Meth K C.o "copy_of" A.f_World_copy_of
  F_World_send : Fun K "send" "World.send" s_World_send A.f_World_send A.d_World_send
  b_World_send : Binds K A.d_World_send ["self", "letter"] []
  m_World_send : Meth K C.o "send" A.f_World_send
  F_World_tell : Fun K "tell" "World.tell" s_World_tell A.f_World_tell A.d_World_tell
  b_World_tell : Binds K A.d_World_tell ["self", "meeting", "guest"] []
  m_World_tell : Meth K C.o "tell" A.f_World_tell
  F_World_tell_asked : Fun K "tell_asked" "World.tell_asked" s_World_tell_asked A.f_World_tell_asked A.d_World_tell_asked
  b_World_tell_asked : Binds K A.d_World_tell_asked ["self", "meeting"] []
  m_World_tell_asked : Meth K C.o "tell_asked" A.f_World_tell_asked
  F_World_add_meeting : Fun K "add_meeting" "World.add_meeting" s_World_add_meeting A.f_World_add_meeting A.d_World_add_meeting
  b_World_add_meeting : Binds K A.d_World_add_meeting ["self", "host", "time", "people"] []
  m_World_add_meeting : Meth K C.o "add_meeting" A.f_World_add_meeting
  F_World_move : Fun K "move" "World.move" s_World_move A.f_World_move A.d_World_move
  b_World_move : Binds K A.d_World_move ["self", "meeting", "time"] []
  m_World_move : Meth K C.o "move" A.f_World_move
  F_World_hand_over : Fun K "hand_over" "World.hand_over" s_World_hand_over A.f_World_hand_over A.d_World_hand_over
  b_World_hand_over : Binds K A.d_World_hand_over ["self", "letter"] []
  m_World_hand_over : Meth K C.o "hand_over" A.f_World_hand_over
  F_World_hand_over_word : Fun K "hand_over_word" "World.hand_over_word" s_World_hand_over_word A.f_World_hand_over_word A.d_World_hand_over_word
  b_World_hand_over_word : Binds K A.d_World_hand_over_word ["self", "word"] []
  m_World_hand_over_word : Meth K C.o "hand_over_word" A.f_World_hand_over_word
  F_World_hand_over_answer : Fun K "hand_over_answer" "World.hand_over_answer" s_World_hand_over_answer A.f_World_hand_over_answer A.d_World_hand_over_answer
  b_World_hand_over_answer : Binds K A.d_World_hand_over_answer ["self", "letter"] []
  m_World_hand_over_answer : Meth K C.o "hand_over_answer" A.f_World_hand_over_answer
  F_is_meeting : Fun K "is_meeting" "is_meeting" s_is_meeting A.f_is_meeting A.d_is_meeting
  b_is_meeting : Binds K A.d_is_meeting ["world", "number"] []
  g_is_meeting : mg "is_meeting" = some (.ref A.f_is_meeting)
  F_is_letter : Fun K "is_letter" "is_letter" s_is_letter A.f_is_letter A.d_is_letter
  b_is_letter : Binds K A.d_is_letter ["world", "number"] []
  g_is_letter : mg "is_letter" = some (.ref A.f_is_letter)
  F_refusal_to_change : Fun K "refusal_to_change" "refusal_to_change" s_refusal_to_change A.f_refusal_to_change A.d_refusal_to_change
  b_refusal_to_change : Binds K A.d_refusal_to_change ["world", "number"] []
  g_refusal_to_change : mg "refusal_to_change" = some (.ref A.f_refusal_to_change)
  F_may_meet : Fun K "may_meet" "may_meet" s_may_meet A.f_may_meet A.d_may_meet
  b_may_meet : Binds K A.d_may_meet ["host", "time", "guests"] []
  g_may_meet : mg "may_meet" = some (.ref A.f_may_meet)
  F_new_meeting : Fun K "new_meeting" "new_meeting" s_new_meeting A.f_new_meeting A.d_new_meeting
  b_new_meeting : Binds K A.d_new_meeting ["world", "numbers"] []
  g_new_meeting : mg "new_meeting" = some (.ref A.f_new_meeting)
  F_move_meeting : Fun K "move_meeting" "move_meeting" s_move_meeting A.f_move_meeting A.d_move_meeting
  b_move_meeting : Binds K A.d_move_meeting ["world", "numbers"] []
  g_move_meeting : mg "move_meeting" = some (.ref A.f_move_meeting)
  F_call_off : Fun K "call_off" "call_off" s_call_off A.f_call_off A.d_call_off
  b_call_off : Binds K A.d_call_off ["world", "numbers"] []
  g_call_off : mg "call_off" = some (.ref A.f_call_off)
  F_ask_person : Fun K "ask_person" "ask_person" s_ask_person A.f_ask_person A.d_ask_person
  b_ask_person : Binds K A.d_ask_person ["world", "numbers"] []
  g_ask_person : mg "ask_person" = some (.ref A.f_ask_person)
  F_take_off_person : Fun K "take_off_person" "take_off_person" s_take_off_person A.f_take_off_person A.d_take_off_person
  b_take_off_person : Binds K A.d_take_off_person ["world", "numbers"] []
  g_take_off_person : mg "take_off_person" = some (.ref A.f_take_off_person)
  F_give_answer : Fun K "give_answer" "give_answer" s_give_answer A.f_give_answer A.d_give_answer
  b_give_answer : Binds K A.d_give_answer ["world", "numbers"] []
  g_give_answer : mg "give_answer" = some (.ref A.f_give_answer)
  F_grant_wish : Fun K "grant_wish" "grant_wish" s_grant_wish A.f_grant_wish A.d_grant_wish
  b_grant_wish : Binds K A.d_grant_wish ["world", "numbers"] []
  g_grant_wish : mg "grant_wish" = some (.ref A.f_grant_wish)
  F_nudge_guests : Fun K "nudge_guests" "nudge_guests" s_nudge_guests A.f_nudge_guests A.d_nudge_guests
  b_nudge_guests : Binds K A.d_nudge_guests ["world", "numbers"] []
  g_nudge_guests : mg "nudge_guests" = some (.ref A.f_nudge_guests)
  F_press_answer : Fun K "press_answer" "press_answer" s_press_answer A.f_press_answer A.d_press_answer
  b_press_answer : Binds K A.d_press_answer ["world", "numbers"] []
  g_press_answer : mg "press_answer" = some (.ref A.f_press_answer)
  F_take_letter : Fun K "take_letter" "take_letter" s_take_letter A.f_take_letter A.d_take_letter
  b_take_letter : Binds K A.d_take_letter ["world", "numbers"] []
  g_take_letter : mg "take_letter" = some (.ref A.f_take_letter)
  F_keep_letter : Fun K "keep_letter" "keep_letter" s_keep_letter A.f_keep_letter A.d_keep_letter
  b_keep_letter : Binds K A.d_keep_letter ["world", "numbers"] []
  g_keep_letter : mg "keep_letter" = some (.ref A.f_keep_letter)
  F_lose_letter : Fun K "lose_letter" "lose_letter" s_lose_letter A.f_lose_letter A.d_lose_letter
  b_lose_letter : Binds K A.d_lose_letter ["world", "numbers"] []
  g_lose_letter : mg "lose_letter" = some (.ref A.f_lose_letter)
  F_show_letters : Fun K "show_letters" "show_letters" s_show_letters A.f_show_letters A.d_show_letters
  b_show_letters : Binds K A.d_show_letters ["world", "numbers"] []
  g_show_letters : mg "show_letters" = some (.ref A.f_show_letters)
  F_show_host : Fun K "show_host" "show_host" s_show_host A.f_show_host A.d_show_host
  b_show_host : Binds K A.d_show_host ["world", "numbers"] []
  g_show_host : mg "show_host" = some (.ref A.f_show_host)
  F_show_copy : Fun K "show_copy" "show_copy" s_show_copy A.f_show_copy A.d_show_copy
  b_show_copy : Binds K A.d_show_copy ["world", "numbers"] []
  g_show_copy : mg "show_copy" = some (.ref A.f_show_copy)
  F_row_for : Fun K "row_for" "row_for" s_row_for A.f_row_for A.d_row_for
  b_row_for : Binds K A.d_row_for ["world", "person", "meeting"] []
  g_row_for : mg "row_for" = some (.ref A.f_row_for)
  F_show_person : Fun K "show_person" "show_person" s_show_person A.f_show_person A.d_show_person
  b_show_person : Binds K A.d_show_person ["world", "numbers"] []
  g_show_person : mg "show_person" = some (.ref A.f_show_person)
  F_end_of_call : Fun K "end_of_call" "end_of_call" s_end_of_call A.f_end_of_call A.d_end_of_call
  b_end_of_call : Binds K A.d_end_of_call ["calls", "start"] []
  g_end_of_call : mg "end_of_call" = some (.ref A.f_end_of_call)
  F_answers : Fun K "answers" "answers" s_answers A.f_answers A.d_answers
  b_answers : Binds K A.d_answers ["calls"] []
  g_answers : mg "answers" = some (.ref A.f_answers)
  g_SIZES : mg "SIZES" = some (.ref A.t_SIZES)
  t_SIZES : ∃ D, KDict K A.t_SIZES D ∧ D.map (fun e => (e.1, intOf e.2)) = [(0, some 3), (1, some 2), (2, some 1), (3, some 2), (4, some 2), (5, some 4), (6, some 2), (7, some 1), (8, some 2), (9, some 1), (10, some 1), (11, some 1), (12, some 0), (13, some 1), (14, some 2), (15, some 1)]
  g_CALLS : mg "CALLS" = some (.ref A.t_CALLS)
  t_CALLS : ∃ D, KDict K A.t_CALLS D ∧ D.map (fun e => (e.1, refOf e.2)) = [(0, some A.f_new_meeting), (1, some A.f_move_meeting), (2, some A.f_call_off), (3, some A.f_ask_person), (4, some A.f_take_off_person), (5, some A.f_give_answer), (6, some A.f_grant_wish), (7, some A.f_nudge_guests), (8, some A.f_press_answer), (9, some A.f_take_letter), (10, some A.f_keep_letter), (11, some A.f_lose_letter), (12, some A.f_show_letters), (13, some A.f_show_host), (14, some A.f_show_copy), (15, some A.f_show_person)]
end Cw
end

section
set_option Elab.async false
set_option linter.all false
set_option maxRecDepth 100000
set_option maxHeartbeats 2000000
namespace Cw
open PySem PySem.Spec PyProof.Rows L2
section
variable {K : PySem.W.Frag} {H : Hp} {a C dx : Addr} {fs : List (Str × V)} {f : Str} {v : V}
theorem rd_fld {Q : V → Prop} (h : H a = some (.ins C dx fs)) (c : Cls K C) (n : NoAttr K C f) (l : fs.lookup f = some v) (q : Q v) :
    ∃ a' C' dx' fs' v', V.ref a = .ref a' ∧ H a' = some (.ins C' dx' fs') ∧ Cls K C' ∧ NoAttr K C' f ∧ fs'.lookup f = some v' ∧ Q v' := ⟨a, C, dx, fs, v, rfl, h, c, n, l, q⟩
theorem st_fld {R : Addr → Addr → Addr → List (Str × V) → Prop} (h : H a = some (.ins C dx fs)) (c : Cls K C) (n : NoAttr K C f) (l : fs.length < 1000) (q : R a C dx fs) :
    ∃ a' C' dx' fs', V.ref a = .ref a' ∧ H a' = some (.ins C' dx' fs') ∧ Cls K C' ∧ NoAttr K C' f ∧ fs'.length < 1000 ∧ R a' C' dx' fs' := ⟨a, C, dx, fs, rfl, h, c, n, l, q⟩
theorem ins_ne {C' dx' : Addr} {p : Str × V} {r : List (Str × V)} {b : Addr} (h : H a = some (.ins C dx (p :: r))) (h' : H b = some (.ins C' dx' [])) : a ≠ b :=
  ne_of h h' (by intro z; injection z with _ _ z; cases z)
theorem lc_yes {σ : L2.St} {H : Hp} {A B : Hp → Prop} (h : A H) : tYes σ H (fun b H3 => if b = true then A H3 else B H3) := h
theorem up {H : Hp} {p b : Addr} {o : HO} {r : Option HO} (h : H b = r) (n : b ≠ p) : upd H p o b = r := (upd_ne n).trans h
end
end Cw
end

section
set_option Elab.async false
set_option linter.all false
set_option maxRecDepth 100000
set_option maxHeartbeats 2000000
namespace Cw
open PySem PySem.Spec PyProof.Rows L2
section
variable {P : Program} {w : World} {K : PySem.W.Frag} {mg : Str → Option Value} {base : Heap} {C : Cs} {A : Ad}
def sp_Guest_init (C : Cs) : Sp := fun vs H Q _ => ∃ (p dx : Addr) (n : Nat), vs = [.ref p, vN n] ∧ H p = some (.ins C.g dx []) ∧ Q .non (upd H p (.ins C.g dx (gf ⟨n, 0, true, 0, 0, none⟩)))
theorem ok_Guest_init (T : Txt K mg C) (U : Env K mg C A) : FnOk P w K mg base CX0 1 A.f_Guest_init A.d_Guest_init ["self", "person"] (sp_Guest_init C) := by
  refine U.F_Guest_init.ok sc_Guest_init (fun vs H Q E h => ?_) (fun cdv A' outer s H vs Q E hr h => ?_)
  · obtain ⟨p, dx, n, rfl, _⟩ := h
    rfl
  · obtain ⟨p, dx, n, rfl, hp, k⟩ := h
    refine ⟨_, (pss_cons (ps_fld (pv 0) (pv 1) rfl) (pss_cons (ps_fld (pv 0) pe_int rfl) (pss_cons (ps_fld (pv 0) pe_int rfl) (pss_cons (ps_fld (pv 0) pe_int rfl) (pss_cons (ps_fld (pv 0) (pe_ci rfl T.k_NO_ANSWER) rfl) (pss_one (ps_fld (pv 0) (pe_ci rfl T.k_NO_TIME) rfl))))))), ?_⟩
    refine ⟨_, rfl, _, rfl, st_fld hp T.cl_g T.n_g_person (show 0 < 1000 by decide) ?_⟩
    refine ⟨_, rfl, st_fld upd_same T.cl_g T.n_g_words (show 1 < 1000 by decide) ?_⟩
    refine ⟨_, rfl, st_fld upd_same T.cl_g T.n_g_asked (show 2 < 1000 by decide) ?_⟩
    refine ⟨_, rfl, st_fld upd_same T.cl_g T.n_g_counted (show 3 < 1000 by decide) ?_⟩
    refine ⟨_, rfl, st_fld upd_same T.cl_g T.n_g_answer (show 4 < 1000 by decide) ?_⟩
    refine ⟨_, rfl, st_fld upd_same T.cl_g T.n_g_wish (show 5 < 1000 by decide) ?_⟩
    rw [upd_upd, upd_upd, upd_upd, upd_upd, upd_upd]
    exact k
def sp_Word_init (C : Cs) : Sp := fun vs H Q _ => ∃ (p dx ma dm gl ga dg : Addr) (i : Nat) (x : Cl06.Meeting) (g : Cl06.Guest), vs = [.ref p, .ref ma, .ref ga] ∧ H p = some (.ins C.w dx []) ∧
  H ma = some (.ins C.m dm (mf i gl x)) ∧ H ga = some (.ins C.g dg (gf g)) ∧ Q .non (upd H p (.ins C.w dx (wf (Cl06.word x i g))))
theorem ok_Word_init (T : Txt K mg C) (U : Env K mg C A) : FnOk P w K mg base CX0 1 A.f_Word_init A.d_Word_init ["self", "meeting", "guest"] (sp_Word_init C) := by
  refine U.F_Word_init.ok sc_Word_init (fun vs H Q E h => ?_) (fun cdv A' outer s H vs Q E hr h => ?_)
  · obtain ⟨_, _, _, _, _, _, _, _, _, _, rfl, _⟩ := h
    rfl
  · obtain ⟨p, dx, ma, dm, gl, ga, dg, i, x, g, rfl, hp, hm, hg, k⟩ := h
    have nm : ma ≠ p := ins_ne hm hp
    have ng : ga ≠ p := ins_ne hg hp
    refine ⟨_, (pss_cons (ps_fld (pv 0) (pe_fld (pv 2) rfl) rfl) (pss_cons (ps_fld (pv 0) (pe_fld (pv 1) rfl) rfl) (pss_cons (ps_fld (pv 0) (pe_fld (pv 1) rfl) rfl) (pss_cons (ps_fld (pv 0) (pe_fld (pv 2) rfl) rfl) (pss_cons (ps_fld (pv 0) (pe_fld (pv 1) rfl) rfl) (pss_cons (ps_fld (pv 0) (pe_fld (pv 1) rfl) rfl) (pss_cons (ps_fld (pv 0) (pe_fld (pv 1) rfl) rfl) (pss_one (ps_fld (pv 0) (pe_fld (pv 2) rfl) rfl))))))))), ?_⟩
    refine ⟨_, rfl, rd_fld hg T.cl_g T.n_g_person rfl ⟨_, rfl, st_fld hp T.cl_w T.n_w_guest (show 0 < 1000 by decide) ?_⟩⟩
    refine ⟨_, rfl, rd_fld (up hm nm) T.cl_m T.n_m_host rfl ⟨_, rfl, st_fld upd_same T.cl_w T.n_w_host (show 1 < 1000 by decide) ?_⟩⟩
    rw [upd_upd]
    refine ⟨_, rfl, rd_fld (up hm nm) T.cl_m T.n_m_number rfl ⟨_, rfl, st_fld upd_same T.cl_w T.n_w_meeting (show 2 < 1000 by decide) ?_⟩⟩
    rw [upd_upd]
    refine ⟨_, rfl, rd_fld (up hg ng) T.cl_g T.n_g_words rfl ⟨_, rfl, st_fld upd_same T.cl_w T.n_w_number (show 3 < 1000 by decide) ?_⟩⟩
    rw [upd_upd]
    refine ⟨_, rfl, rd_fld (up hm nm) T.cl_m T.n_m_round_no rfl ⟨_, rfl, st_fld upd_same T.cl_w T.n_w_round_no (show 4 < 1000 by decide) ?_⟩⟩
    rw [upd_upd]
    refine ⟨_, rfl, rd_fld (up hm nm) T.cl_m T.n_m_time rfl ⟨_, rfl, st_fld upd_same T.cl_w T.n_w_time (show 5 < 1000 by decide) ?_⟩⟩
    rw [upd_upd]
    refine ⟨_, rfl, rd_fld (up hm nm) T.cl_m T.n_m_off rfl ⟨_, rfl, st_fld upd_same T.cl_w T.n_w_off (show 6 < 1000 by decide) ?_⟩⟩
    rw [upd_upd]
    refine ⟨_, rfl, rd_fld (up hg ng) T.cl_g T.n_g_asked rfl ⟨_, rfl, st_fld upd_same T.cl_w T.n_w_asked (show 7 < 1000 by decide) ?_⟩⟩
    rw [upd_upd]
    exact k
def sp_Answer_init (C : Cs) : Sp := fun vs H Q _ => ∃ (p dx ma dm gl ca dc wa dw : Addr) (i q h : Nat) (x : Cl06.Meeting) (c : Cl06.Copy), vs = [.ref p, .ref ma, vN q, .ref ca] ∧ H p = some (.ins C.a dx []) ∧
  H ma = some (.ins C.m dm (mf i gl x)) ∧ H ca = some (.ins C.c dc (cf wa c)) ∧ H wa = some (.ins C.w dw (wf (wordOf q i h c))) ∧ Q .non (upd H p (.ins C.a dx (af (Cl06.reply x q i c))))
theorem ok_Answer_init (T : Txt K mg C) (U : Env K mg C A) : FnOk P w K mg base CX0 1 A.f_Answer_init A.d_Answer_init ["self", "meeting", "person", "copy"] (sp_Answer_init C) := by
  refine U.F_Answer_init.ok sc_Answer_init (fun vs H Q E h => ?_) (fun cdv A' outer s H vs Q E hr h => ?_)
  · obtain ⟨_, _, _, _, _, _, _, _, _, _, _, _, _, _, rfl, _⟩ := h
    rfl
  · obtain ⟨p, dx, ma, dm, gl, ca, dc, wa, dw, i, q, h, x, c, rfl, hp, hm, hc, hw, k⟩ := h
    have nm : ma ≠ p := ins_ne hm hp
    have nc : ca ≠ p := ins_ne hc hp
    have nw : wa ≠ p := ins_ne hw hp
    refine ⟨_, (pss_cons (ps_fld (pv 0) (pv 2) rfl) (pss_cons (ps_fld (pv 0) (pe_fld (pv 1) rfl) rfl) (pss_cons (ps_fld (pv 0) (pe_fld (pv 1) rfl) rfl) (pss_cons (ps_fld (pv 0) (pe_fld (pv 3) rfl) rfl) (pss_cons (ps_fld (pv 0) (pe_fld (pe_fld (pv 3) rfl) rfl) rfl) (pss_cons (ps_fld (pv 0) (pe_fld (pv 3) rfl) rfl) (pss_one (ps_fld (pv 0) (pe_fld (pv 3) rfl) rfl)))))))), ?_⟩
    refine ⟨_, rfl, _, rfl, st_fld hp T.cl_a T.n_a_guest (show 0 < 1000 by decide) ?_⟩
    refine ⟨_, rfl, rd_fld (up hm nm) T.cl_m T.n_m_host rfl ⟨_, rfl, st_fld upd_same T.cl_a T.n_a_host (show 1 < 1000 by decide) ?_⟩⟩
    rw [upd_upd]
    refine ⟨_, rfl, rd_fld (up hm nm) T.cl_m T.n_m_number rfl ⟨_, rfl, st_fld upd_same T.cl_a T.n_a_meeting (show 2 < 1000 by decide) ?_⟩⟩
    rw [upd_upd]
    refine ⟨_, rfl, rd_fld (up hc nc) T.cl_c T.n_c_given rfl ⟨_, rfl, st_fld upd_same T.cl_a T.n_a_number (show 3 < 1000 by decide) ?_⟩⟩
    rw [upd_upd]
    refine ⟨_, rfl, rd_fld (up hc nc) T.cl_c T.n_c_word rfl (rd_fld (up hw nw) T.cl_w T.n_w_round_no rfl ⟨_, rfl, st_fld upd_same T.cl_a T.n_a_round_no (show 4 < 1000 by decide) ?_⟩)⟩
    rw [upd_upd]
    refine ⟨_, rfl, rd_fld (up hc nc) T.cl_c T.n_c_answer rfl ⟨_, rfl, st_fld upd_same T.cl_a T.n_a_what (show 5 < 1000 by decide) ?_⟩⟩
    rw [upd_upd]
    refine ⟨_, rfl, rd_fld (up hc nc) T.cl_c T.n_c_wish rfl ⟨_, rfl, st_fld upd_same T.cl_a T.n_a_wish (show 6 < 1000 by decide) ?_⟩⟩
    rw [upd_upd]
    exact k
def sp_Copy_init (C : Cs) : Sp := fun vs H Q _ => ∃ (p dx wa : Addr), vs = [.ref p, .ref wa] ∧ H p = some (.ins C.c dx []) ∧ Q .non (upd H p (.ins C.c dx (cf wa ⟨0, 0, 0, false, false, 0, 0, none⟩)))
theorem ok_Copy_init (T : Txt K mg C) (U : Env K mg C A) : FnOk P w K mg base CX0 1 A.f_Copy_init A.d_Copy_init ["self", "word"] (sp_Copy_init C) := by
  refine U.F_Copy_init.ok sc_Copy_init (fun vs H Q E h => ?_) (fun cdv A' outer s H vs Q E hr h => ?_)
  · obtain ⟨_, _, _, rfl, _⟩ := h
    rfl
  · obtain ⟨p, dx, wa, rfl, hp, k⟩ := h
    refine ⟨_, (pss_cons (ps_fld (pv 0) (pv 1) rfl) (pss_cons (ps_fld (pv 0) pe_int rfl) (pss_cons (ps_fld (pv 0) (pe_ci rfl T.k_NO_ANSWER) rfl) (pss_one (ps_fld (pv 0) (pe_ci rfl T.k_NO_TIME) rfl))))), ?_⟩
    refine ⟨_, rfl, _, rfl, st_fld hp T.cl_c T.n_c_word (show 0 < 1000 by decide) ?_⟩
    refine ⟨_, rfl, st_fld upd_same T.cl_c T.n_c_given (show 1 < 1000 by decide) ?_⟩
    refine ⟨_, rfl, st_fld upd_same T.cl_c T.n_c_answer (show 2 < 1000 by decide) ?_⟩
    refine ⟨_, rfl, st_fld upd_same T.cl_c T.n_c_wish (show 3 < 1000 by decide) ?_⟩
    rw [upd_upd, upd_upd, upd_upd]
    exact k
def sp_Copy_hear (C : Cs) : Sp := fun vs H Q _ => ∃ (ca dc wa dw wb dv : Addr) (c : Cl06.Copy) (l l' : Cl06.Letter), vs = [.ref ca, .ref wb] ∧ H ca = some (.ins C.c dc (cf wa c)) ∧ H wa = some (.ins C.w dw (wf l)) ∧ H wb = some (.ins C.w dv (wf l')) ∧
  Q .non (upd H ca (.ins C.c dc (cf wb { c with answer := if l'.round = l.round then c.answer else 0, wish := if l'.round = l.round then c.wish else none })))
theorem ok_Copy_hear (T : Txt K mg C) (U : Env K mg C A) : FnOk P w K mg base CX0 1 A.f_Copy_hear A.d_Copy_hear ["self", "word"] (sp_Copy_hear C) := by
  refine U.F_Copy_hear.ok sc_Copy_hear (fun vs H Q E h => ?_) (fun cdv A' outer s H vs Q E hr h => ?_)
  · obtain ⟨_, _, _, _, _, _, _, _, _, rfl, _⟩ := h
    rfl
  · obtain ⟨ca, dc, wa, dw, wb, dv, c, l, l', rfl, hc, hw, hv, k⟩ := h
    refine ⟨_, (pss_cons (ps_if (pt_cmpR op_ne (pe_fld (pv 1) rfl) (pe_fld (pe_fld (pv 0) rfl) rfl) (nomark _)) (pss_cons (ps_fld (pv 0) (pe_ci rfl T.k_NO_ANSWER) rfl) (pss_one (ps_fld (pv 0) (pe_ci rfl T.k_NO_TIME) rfl))) pss_nil) (pss_one (ps_fld (pv 0) (pv 1) rfl))), ?_⟩
    refine ⟨_, rfl, rd_fld hv T.cl_w T.n_w_round_no rfl ⟨_, rfl, rd_fld hc T.cl_c T.n_c_word rfl (rd_fld hw T.cl_w T.n_w_round_no rfl ⟨rfl, _, rfl, ?_⟩)⟩⟩
    by_cases e : l'.round = l.round
    · have e1 : (!decide (V.int (l'.round : Int) = V.int (l.round : Int))) = false := by rw [e]; simp
      rw [e1]
      refine iteF ?_
      refine ⟨_, rfl, _, rfl, st_fld hc T.cl_c T.n_c_word (show 4 < 1000 by decide) ?_⟩
      rw [if_pos e, if_pos e] at k
      exact k
    · have e1 : (!decide (V.int (l'.round : Int) = V.int (l.round : Int))) = true := by
        rw [Bool.not_eq_true', decide_eq_false_iff_not]
        intro q
        injection q with q
        omega
      rw [e1]
      refine iteT ?_
      refine ⟨_, rfl, st_fld hc T.cl_c T.n_c_answer (show 4 < 1000 by decide) ?_⟩
      refine ⟨_, rfl, st_fld upd_same T.cl_c T.n_c_wish (show 4 < 1000 by decide) ?_⟩
      refine ⟨_, rfl, _, rfl, st_fld upd_same T.cl_c T.n_c_word (show 4 < 1000 by decide) ?_⟩
      rw [upd_upd, upd_upd]
      rw [if_neg e, if_neg e] at k
      exact k
end
end Cw
end

section
set_option Elab.async false
set_option linter.all false
set_option maxRecDepth 100000
set_option maxHeartbeats 2000000
namespace Cw
open PySem PySem.Spec PyProof.Rows L2
section
variable {C : Cs} {H H' : Hp} {L : Lay} {s : Cl06.State} {i j : Nat} {x : Cl06.Meeting} {g : Cl06.Guest}
theorem Rep.world (R : Rep C H L s) : ∃ dx, H L.w = some (.ins C.o dx (of L.lm L.dc L.ll)) := R.cells.at_ .w _ rfl
theorem Rep.lm (R : Rep C H L s) : H L.lm = some (.lst (meetsV L s.meetings.length)) := R.cells.at_ .lm _ rfl
theorem Rep.dc (R : Rep C H L s) : H L.dc = some (.dT (copiesV L)) := R.cells.at_ .dc _ rfl
theorem Rep.ll (R : Rep C H L s) : H L.ll = some (.lst (L.la.map V.ref)) := R.cells.at_ .ll _ rfl
theorem Rep.meet (R : Rep C H L s) (hx : s.meetings[i]? = some x) : ∃ dm, H (L.ma i) = some (.ins C.m dm (mf i (L.gl i) x)) := R.cells.at_ (.meet i) (.ins C.m (mf i (L.gl i) x)) (by show s.meetings[i]?.map _ = _; rw [hx]; rfl)
theorem Rep.gl (R : Rep C H L s) (hx : s.meetings[i]? = some x) : H (L.gl i) = some (.lst (guestsV L i x.guests.length)) := R.cells.at_ (.gl i) (.lst (guestsV L i x.guests.length)) (by show s.meetings[i]?.map _ = _; rw [hx]; rfl)
theorem Rep.guest (R : Rep C H L s) (hx : s.meetings[i]? = some x) (hg : x.guests[j]? = some g) : ∃ dg, H (L.ga i j) = some (.ins C.g dg (gf g)) :=
  R.cells.at_ (.guest i j) (.ins C.g (gf g)) (by show s.meetings[i]?.bind _ = _; rw [hx]; show x.guests[j]?.map _ = _; rw [hg]; rfl)
theorem Rep.copy (R : Rep C H L s) {p m : Nat} {c : Cl06.Copy} (hc : Cl06.copyOf s p m = some c) : ∃ d, H (L.ca p m) = some (.ins C.c d (cf (L.wa p m) c)) := R.cells.at_ (.copy p m) (.ins C.c (cf (L.wa p m) c)) (by show (Cl06.copyOf s p m).map _ = _; rw [hc]; rfl)
theorem guestsV_at {n : Nat} {v : V} (h : (guestsV L i n)[j]? = some v) : j < n ∧ v = V.ref (L.ga i j) := by
  unfold guestsV at h
  rw [List.getElem?_map] at h
  obtain ⟨k, h1, h2⟩ := Option.map_eq_some_iff.mp h
  have hj : j < n := by
    have := (List.getElem?_eq_some_iff.mp h1).1
    simpa using this
  rw [List.getElem?_range hj] at h1
  cases h1
  exact ⟨hj, h2.symm⟩
theorem guestsV_len (n : Nat) : (guestsV L i n).length = n := by simp [guestsV]
theorem meetsV_at {n : Nat} (h : i < n) : (meetsV L n)[i]? = some (V.ref (L.ma i)) := by
  unfold meetsV
  rw [List.getElem?_map, List.getElem?_range h]
  rfl
theorem Same.upd' {p : Addr} {o : HO} (h : H p = none) : Same H (upd H p o) := fun b u e => by
  rw [upd_ne (ne_of_none e h)]
  exact e
theorem Gd.five (G : Gd s) (hx : s.meetings[i]? = some x) : x.guests.length ≤ 5 := by
  have := nodup_lt 5 (x.guests.map (·.who)) (G.nd i x hx) fun a ha => by
    obtain ⟨g, hg, rfl⟩ := List.mem_map.mp ha
    exact (G.who i x g hx hg).1
  simpa using this
theorem Gd.fiveL (G : Gd s) (hx : s.meetings[i]? = some x) : x.guests.length < sizeLine := Nat.lt_of_le_of_lt (G.five hx) (by decide)
end
section
variable {P : Program} {w : World} {K : PySem.W.Frag} {mg : Str → Option Value} {base : Heap} {C : Cs} {A : Ad}
def sp_World_init (C : Cs) : Sp := fun vs H Q _ => ∃ (p dx : Addr), vs = [.ref p] ∧ H p = some (.ins C.o dx []) ∧ ∀ (H' : Hp) (lm dc ll : Addr), H' p = some (.ins C.o dx (of lm dc ll)) → H' lm = some (.lst []) → H' dc = some (.dT []) → H' ll = some (.lst []) →
  lm ≠ ll → (∀ b o, H b = some o → b ≠ p → H' b = some o) → H lm = none → H dc = none → H ll = none → Q .non H'
theorem ok_World_init (T : Txt K mg C) (U : Env K mg C A) : FnOk P w K mg base CX0 1 A.f_World_init A.d_World_init ["self"] (sp_World_init C) := by
  refine U.F_World_init.ok sc_World_init (fun vs H Q E h => ?_) (fun cdv A' outer s H vs Q E hr h => ?_)
  · obtain ⟨_, _, rfl, _⟩ := h
    rfl
  · obtain ⟨p, dx, rfl, hp, k⟩ := h
    refine ⟨_, (pss_cons (ps_fld (pv 0) (pe_lst pa_nil) rfl) (pss_cons (ps_fld (pv 0) pe_dnewT rfl) (pss_one (ps_fld (pv 0) (pe_lst pa_nil) rfl)))), ?_⟩
    refine ⟨Nat.zero_le _, fun lm hlm => ⟨_, rfl, st_fld (up hp (ne_of_none hp hlm)) T.cl_o T.n_o_meetings (show 0 < 1000 by decide) ?_⟩⟩
    refine fun dc hdc => ⟨_, rfl, st_fld (up upd_same (ne_of_none upd_same hdc)) T.cl_o T.n_o_copies (show 1 < 1000 by decide) ?_⟩
    refine ⟨Nat.zero_le _, fun ll hll => ⟨_, rfl, st_fld (up upd_same (ne_of_none upd_same hll)) T.cl_o T.n_o_letters (show 2 < 1000 by decide) ?_⟩⟩
    have n1 : lm ≠ p := fun e => by rw [e, hp] at hlm; cases hlm
    have e1 : ∀ o, upd (upd H lm (.lst [])) p o lm = some (.lst []) := fun o => up upd_same n1
    have n2 : lm ≠ dc := ne_of_none (e1 _) hdc
    have n3 : dc ≠ p := fun e => by rw [e, upd_same] at hdc; cases hdc
    have n5 : ll ≠ p := fun e => by rw [e, upd_same] at hll; cases hll
    have n4 : lm ≠ ll := ne_of_none (up (up (e1 _) n2) n1) hll
    have n6 : dc ≠ ll := ne_of_none (up upd_same n3) hll
    have f1 : H dc = none := by
      rw [upd_ne n3, upd_ne n2.symm] at hdc
      exact hdc
    have f2 : H ll = none := by
      rw [upd_ne n5, upd_ne n6.symm, upd_ne n5, upd_ne n4.symm] at hll
      exact hll
    refine k _ lm dc ll upd_same ?_ ?_ ?_ n4 (fun b o e nb => ?_) hlm f1 f2
    · exact up (up (up (up (up upd_same n1) n2) n1) n4) n1
    · exact up (up (up upd_same n3) n6) n3
    · exact up upd_same n5
    · exact up (up (up (up (up (up e (ne_of_none e hlm)) nb) (ne_of_none e f1)) nb) (ne_of_none e f2)) nb
def sp_Word_row (C : Cs) : Sp := fun vs H Q _ => ∃ (p dx : Addr) (l : Cl06.Letter), vs = [.ref p] ∧ H p = some (.ins C.w dx (wf l)) ∧ l.kind = 0 ∧ ∀ (H' : Hp) (q : Addr), Same H H' → H q = none → H' q = some (.lst ((Cl06.letterNums l).map V.int)) → Q (.ref q) H'
theorem ok_Word_row (T : Txt K mg C) (U : Env K mg C A) : FnOk P w K mg base CX0 1 A.f_Word_row A.d_Word_row ["self"] (sp_Word_row C) := by
  refine U.F_Word_row.ok sc_Word_row (fun vs H Q E h => ?_) (fun cdv A' outer s H vs Q E hr h => ?_)
  · obtain ⟨_, _, _, rfl, _⟩ := h
    rfl
  · obtain ⟨p, dx, l, rfl, hp, hk, k⟩ := h
    refine ⟨_, (pss_cons (ps_set (i := 1) sc_Word_row.nd rfl (Or.inl rfl) (pe_lst (pa_cons (pe_ci rfl T.k_WORD) (pa_cons (pe_fld (pv 0) rfl) (pa_cons (pe_fld (pv 0) rfl) (pa_cons (pe_fld (pv 0) rfl) (pa_cons (pe_fld (pv 0) rfl) (pa_cons (pe_fld (pv 0) rfl) pa_nil)))))))) (pss_one (ps_ret (pe_op op_cat (pv 1) (pe_lst (pa_cons (pe_fld (pv 0) rfl) (pa_cons (pe_fld (pv 0) rfl) (pa_cons (pe_fld (pv 0) rfl) pa_nil)))))))), ?_⟩
    refine ⟨_, rfl, rd_fld hp T.cl_w T.n_w_guest rfl ⟨_, rfl, rd_fld hp T.cl_w T.n_w_host rfl ⟨_, rfl, rd_fld hp T.cl_w T.n_w_meeting rfl ⟨_, rfl, rd_fld hp T.cl_w T.n_w_number rfl ⟨_, rfl, rd_fld hp T.cl_w T.n_w_round_no rfl
      ⟨(show 6 ≤ sizeLine by decide), fun q hq => ?_⟩⟩⟩⟩⟩⟩
    have hp1 := fun o => up (o := o) hp (ne_of_none hp hq)
    refine ⟨_, rfl, _, rfl, rd_fld (hp1 _) T.cl_w T.n_w_time rfl ⟨_, rfl, rd_fld (hp1 _) T.cl_w T.n_w_off rfl ⟨_, rfl, rd_fld (hp1 _) T.cl_w T.n_w_asked rfl ⟨(show 3 ≤ sizeLine by decide), fun r hr => ?_⟩⟩⟩⟩
    refine ⟨q, r, _, _, rfl, rfl, up upd_same (ne_of_none upd_same hr), upd_same, (show 9 ≤ sizeLine by decide), fun z hz => ?_⟩
    have nzr : r ≠ z := ne_of_none upd_same hz
    have nzq : q ≠ z := ne_of_none (up upd_same (ne_of_none upd_same hr)) hz
    refine k _ z (((Same.upd' hq).trans (Same.upd' hr)).trans (Same.upd' hz)) ?_ ?_
    · rw [upd_ne nzr.symm, upd_ne nzq.symm] at hz
      exact hz
    · rw [upd_same]
      unfold Cl06.letterNums
      rw [if_pos hk, hk]
      rfl
def sp_Answer_row (C : Cs) : Sp := fun vs H Q _ => ∃ (p dx : Addr) (l : Cl06.Letter), vs = [.ref p] ∧ H p = some (.ins C.a dx (af l)) ∧ l.kind = 1 ∧ ∀ (H' : Hp) (q : Addr), Same H H' → H q = none → H' q = some (.lst ((Cl06.letterNums l).map V.int)) → Q (.ref q) H'
theorem ok_Answer_row (T : Txt K mg C) (U : Env K mg C A) : FnOk P w K mg base CX0 1 A.f_Answer_row A.d_Answer_row ["self"] (sp_Answer_row C) := by
  refine U.F_Answer_row.ok sc_Answer_row (fun vs H Q E h => ?_) (fun cdv A' outer s H vs Q E hr h => ?_)
  · obtain ⟨_, _, _, rfl, _⟩ := h
    rfl
  · obtain ⟨p, dx, l, rfl, hp, hk, k⟩ := h
    refine ⟨_, (pss_cons (ps_set (i := 1) sc_Answer_row.nd rfl (Or.inl rfl) (pe_lst (pa_cons (pe_ci rfl T.k_ANSWER) (pa_cons (pe_fld (pv 0) rfl) (pa_cons (pe_fld (pv 0) rfl) (pa_cons (pe_fld (pv 0) rfl) (pa_cons (pe_fld (pv 0) rfl) (pa_cons (pe_fld (pv 0) rfl) pa_nil)))))))) (pss_one (ps_ret (pe_op op_cat (pv 1) (pe_lst (pa_cons (pe_fld (pv 0) rfl) (pa_cons (pe_fld (pv 0) rfl) pa_nil))))))), ?_⟩
    refine ⟨_, rfl, rd_fld hp T.cl_a T.n_a_host rfl ⟨_, rfl, rd_fld hp T.cl_a T.n_a_guest rfl ⟨_, rfl, rd_fld hp T.cl_a T.n_a_meeting rfl ⟨_, rfl, rd_fld hp T.cl_a T.n_a_number rfl ⟨_, rfl, rd_fld hp T.cl_a T.n_a_round_no rfl
      ⟨(show 6 ≤ sizeLine by decide), fun q hq => ?_⟩⟩⟩⟩⟩⟩
    have hp1 := fun o => up (o := o) hp (ne_of_none hp hq)
    refine ⟨_, rfl, _, rfl, rd_fld (hp1 _) T.cl_a T.n_a_what rfl ⟨_, rfl, rd_fld (hp1 _) T.cl_a T.n_a_wish rfl ⟨(show 2 ≤ sizeLine by decide), fun r hr => ?_⟩⟩⟩
    refine ⟨q, r, _, _, rfl, rfl, up upd_same (ne_of_none upd_same hr), upd_same, (show 8 ≤ sizeLine by decide), fun z hz => ?_⟩
    have nzr : r ≠ z := ne_of_none upd_same hz
    have nzq : q ≠ z := ne_of_none (up upd_same (ne_of_none upd_same hr)) hz
    refine k _ z (((Same.upd' hq).trans (Same.upd' hr)).trans (Same.upd' hz)) ?_ ?_
    · rw [upd_ne nzr.symm, upd_ne nzq.symm] at hz
      exact hz
    · rw [upd_same]
      unfold Cl06.letterNums
      rw [if_neg (by rw [hk]; decide), hk]
      rfl
def sp_Meeting_guest_of (C : Cs) : Sp := fun vs H Q _ => ∃ (L : Lay) (s : Cl06.State) (i n : Nat) (x : Cl06.Meeting), Rep C H L s ∧ s.meetings[i]? = some x ∧ vs = [.ref (L.ma i), vN n] ∧
  (∀ j g, x.guests[j]? = some g → g.who = n → Q (.ref (L.ga i j)) H) ∧ ((∀ g ∈ x.guests, g.who ≠ n) → Q .non H)
theorem ok_Meeting_guest_of (T : Txt K mg C) (U : Env K mg C A) : FnOk P w K mg base CX0 1 A.f_Meeting_guest_of A.d_Meeting_guest_of ["self", "person"] (sp_Meeting_guest_of C) := by
  refine U.F_Meeting_guest_of.ok sc_Meeting_guest_of (fun vs H Q E h => ?_) (fun cdv A' outer s H vs Q E hr h => ?_)
  · obtain ⟨_, _, _, _, _, _, _, rfl, _⟩ := h
    rfl
  · obtain ⟨L, s', i, n, x, R, hx, rfl, k1, k2⟩ := h
    obtain ⟨dm, hm⟩ := R.meet hx
    have hgl := R.gl hx
    refine ⟨_, (pss_cons (ps_for PassesOwn.never rfl (pi_list (pe_fld (pv 0) rfl)) (pg_name (i := 2) sc_Meeting_guest_of.nd rfl (Or.inl rfl)) (pss_one (ps_if (pt_cmpR op_eq (pe_fld (pv 2) rfl) (pv 1) (nomark _)) (pss_one (ps_ret (pv 2))) pss_nil))) (pss_one (ps_ret pe_non))), ?_⟩
    refine ⟨_, rfl, rd_fld hm T.cl_m T.n_m_guests rfl ⟨_, rfl, ⟨_, SqL.of hgl⟩, for_list (K := K) (a := L.gl i) (xs := guestsV L i x.guests.length) (fun k σ H' => (∃ v : Option V, σ = [some (.ref (L.ma i)), some (vN n), v]) ∧ H' = H ∧ ∀ j g, j < k → x.guests[j]? = some g → g.who ≠ n)
      ⟨⟨none, rfl⟩, rfl, fun j g hj => absurd hj (Nat.not_lt_zero _)⟩ (fun k σ H' _ ⟨_, e, _⟩ => by rw [e]; exact SqL.of hgl) ?_ ?_⟩⟩
    · rintro k y σ H' hy ⟨⟨v, rfl⟩, rfl, hk⟩
      obtain ⟨hlt, rfl⟩ := guestsV_at hy
      obtain ⟨g, hg⟩ : ∃ g, x.guests[k]? = some g := ⟨_, List.getElem?_eq_getElem hlt⟩
      obtain ⟨dg, hga⟩ := R.guest hx hg
      refine ⟨_, rfl, rd_fld hga T.cl_g T.n_g_person rfl ⟨_, rfl, rfl, _, rfl, ?_⟩⟩
      by_cases e : g.who = n
      · rw [show decide (V.int (g.who : Int) = V.int (n : Int)) = true by rw [e]; simp]
        refine iteT ?_
        exact ⟨_, rfl, k1 k g hg e⟩
      · rw [show decide (V.int (g.who : Int) = V.int (n : Int)) = false by rw [decide_eq_false_iff_not]; intro q; injection q with q; omega]
        refine iteF ?_
        refine ⟨⟨_, rfl⟩, rfl, fun j g' hj hg' => ?_⟩
        by_cases ej : j = k
        · subst ej
          rw [hg] at hg'
          cases hg'
          exact e
        · exact hk j g' (by omega) hg'
    · rintro σ H' ⟨⟨v, rfl⟩, rfl, hk⟩
      refine k2 fun g hg => ?_
      obtain ⟨j, hj⟩ := List.mem_iff_getElem?.mp hg
      exact hk j g (by rw [guestsV_len]; exact (List.getElem?_eq_some_iff.mp hj).1) hj
def sp_Meeting_asked_guest_of (C : Cs) : Sp := fun vs H Q _ => ∃ (L : Lay) (s : Cl06.State) (i n : Nat) (x : Cl06.Meeting), Rep C H L s ∧ s.meetings[i]? = some x ∧ vs = [.ref (L.ma i), vN n] ∧
  (∀ j g, x.guests[j]? = some g → g.who = n → g.asked = true → Q (.ref (L.ga i j)) H) ∧ ((∀ g ∈ x.guests, g.who = n → g.asked = false) → Q .non H)
theorem bit_one {b : Bool} : decide (V.int ((Cl06.bit b : Nat) : Int) = V.int 1) = b := by
  cases b <;> decide
theorem bit_zero {b : Bool} : decide (V.int ((Cl06.bit b : Nat) : Int) = V.int 0) = !b := by
  cases b <;> decide
theorem Gd.one {s : Cl06.State} (G : Gd s) {i j k : Nat} {x : Cl06.Meeting} {g g' : Cl06.Guest} (hx : s.meetings[i]? = some x) (h1 : x.guests[j]? = some g) (h2 : x.guests[k]? = some g') (e : g.who = g'.who) : j = k :=
  nd_ix (G.nd i x hx) (i := j) (j := k) (x := g.who) (by rw [List.getElem?_map, h1]; rfl) (by rw [List.getElem?_map, h2, e]; rfl)
theorem ok_Meeting_asked_guest_of (T : Txt K mg C) (U : Env K mg C A) : FnOk P w K mg base CX0 2 A.f_Meeting_asked_guest_of A.d_Meeting_asked_guest_of ["self", "person"] (sp_Meeting_asked_guest_of C) := by
  refine U.F_Meeting_asked_guest_of.ok sc_Meeting_asked_guest_of (fun vs H Q E h => ?_) (fun cdv A' outer s H vs Q E hr h => ?_)
  · obtain ⟨_, _, _, _, _, _, _, rfl, _⟩ := h
    rfl
  · obtain ⟨L, s', i, n, x, R, hx, rfl, k1, k2⟩ := h
    obtain ⟨dm, hm⟩ := R.meet hx
    refine ⟨_, (pss_cons (ps_set (i := 2) sc_Meeting_asked_guest_of.nd rfl (Or.inl rfl) (pe_meth (pv 0) T.cl_m U.m_Meeting_guest_of (ok_Meeting_guest_of T U) hr U.b_Meeting_guest_of .nil pass0 (pa_cons (pv 1) pa_nil))) (pss_cons (ps_if (PW.pt (pw_or (pt_cmpR op_isN (pv 2) pe_non (nomark _)) (pw_or1 (pt_cmpR op_eq (pe_fld (pv 2) rfl) pe_int (nomark _))))) (pss_one (ps_ret pe_non)) pss_nil) (pss_one (ps_ret (pv 2))))), ?_⟩
    refine ⟨_, rfl, _, dm, _, rfl, hm, rfl, _, rfl, L, s', i, n, x, R, hx, rfl, fun j g hg e => ?_, fun hn => ?_⟩
    · obtain ⟨dg, hga⟩ := R.guest hx hg
      refine ⟨_, rfl, rfl, _, rfl, ?_⟩
      refine iteF ?_
      refine ⟨_, rfl, rd_fld hga T.cl_g T.n_g_asked rfl ⟨rfl, _, rfl, ?_⟩⟩
      rw [bit_zero]
      cases ea : g.asked with
      | true => exact iteF ⟨_, rfl, k1 j g hg e ea⟩
      | false =>
        refine iteT (k2 fun g' hg' e' => ?_)
        obtain ⟨j', hj'⟩ := List.mem_iff_getElem?.mp hg'
        have := R.good.one hx hg hj' (e.trans e'.symm)
        subst this
        rw [hg] at hj'
        cases hj'
        exact ea
    · refine ⟨_, rfl, rfl, _, rfl, ?_⟩
      refine iteT ?_
      refine iteT ?_
      exact k2 fun g hg e => absurd e (hn g hg)
end
end Cw
end

section
set_option Elab.async false
set_option linter.all false
set_option maxRecDepth 100000
set_option maxHeartbeats 2000000
namespace Cw
open PySem PySem.Spec PyProof.Rows L2
section
variable {P : Program} {w : World} {K : PySem.W.Frag} {mg : Str → Option Value} {base : Heap} {C : Cs} {A : Ad}
def sp_Meeting_asked_guests (C : Cs) : Sp := fun vs H Q _ => ∃ (L : Lay) (s : Cl06.State) (i : Nat) (x : Cl06.Meeting), Rep C H L s ∧ s.meetings[i]? = some x ∧ vs = [.ref (L.ma i)] ∧
  ∀ D, H D = none → Q (.ref D) (upd H D (.lst ((ixs (fun g => g.asked) x x.guests.length).map fun j => V.ref (L.ga i j))))
theorem ixs_le (p : Cl06.Guest → Bool) (x : Cl06.Meeting) (n : Nat) : (ixs p x n).length ≤ n := by
  have := List.length_filter_le (fun j => (x.guests[j]?).any p) (List.range n)
  rw [List.length_range] at this
  exact this
theorem ok_Meeting_asked_guests (T : Txt K mg C) (U : Env K mg C A) : FnOk P w K mg base CX0 1 A.f_Meeting_asked_guests A.d_Meeting_asked_guests ["self"] (sp_Meeting_asked_guests C) := by
  refine U.F_Meeting_asked_guests.ok sc_Meeting_asked_guests (fun vs H Q E h => ?_) (fun cdv A' outer s H vs Q E hr h => ?_)
  · obtain ⟨_, _, _, _, _, _, rfl, _⟩ := h
    rfl
  · obtain ⟨L, s', i, x, R, hx, rfl, k⟩ := h
    obtain ⟨dm, hm⟩ := R.meet hx
    have hgl := R.gl hx
    refine ⟨_, (pss_one (ps_ret (pe_lc (own := [("guest", 1)]) (g := gName 1) rfl sc_Meeting_asked_guests.nd (pi_list (pe_fld (pv 0) rfl)) (blkOk_by (own := [("guest", 1)]) (N := ["self", "guest"]) (sc := defScope s_Meeting_asked_guests) (by decide +kernel)) (fun _ _ _ _ _ => pg_name (i := 1) sc_Meeting_asked_guests.nd rfl (Or.inl rfl)) (fun _ _ _ _ _ => pts_one (pt_cmpR op_eq (pe_fldK (K := K) rfl (pv 1) rfl) pe_int (nomark _))) (fun _ _ _ _ _ => (pv 1))))), ?_⟩
    refine ⟨_, rfl, rd_fld hm T.cl_m T.n_m_guests rfl ⟨_, rfl, ⟨_, SqL.of hgl⟩, fun D hD => lc_list (K := K) (a := L.gl i) (xs := guestsV L i x.guests.length)
      (fun n H' => H' = upd H D (.lst ((ixs (fun g => g.asked) x n).map fun j => V.ref (L.ga i j)))) rfl (fun n H' _ e => by rw [e]; exact SqL.of (up hgl (ne_of_none hgl hD))) ?_ ?_⟩⟩
    · rintro n y H' hy rfl
      obtain ⟨hlt, rfl⟩ := guestsV_at hy
      obtain ⟨g, hg⟩ : ∃ g, x.guests[n]? = some g := ⟨_, List.getElem?_eq_getElem hlt⟩
      obtain ⟨dg, hga⟩ := R.guest hx hg
      refine ⟨rfl, _, rfl, rd_fld (up hga (ne_of_none hga hD)) T.cl_g T.n_g_asked rfl ⟨rfl, _, rfl, ?_⟩⟩
      rw [bit_one]
      cases ea : g.asked with
      | true =>
        refine iteT ⟨_, rfl, _, upd_same, ?_, ?_⟩
        · rw [List.length_map]
          exact Nat.lt_of_le_of_lt (ixs_le _ _ _) (Nat.lt_trans hlt (R.good.fiveL hx))
        · rw [upd_upd, ixs_succ, hg, if_pos (show (some g).any (fun g => g.asked) = true from ea), List.map_append]
          rfl
      | false =>
        refine iteF ?_
        rw [ixs_succ, hg, if_neg (show ¬ (some g).any (fun g => g.asked) = true by show ¬ g.asked = true; rw [ea]; decide), List.append_nil]
    · rintro H' rfl
      rw [guestsV_len]
      exact k D hD
def sp_World_copy_of (C : Cs) : Sp := fun vs H Q _ => ∃ (L : Lay) (s : Cl06.State) (p m : Nat), Rep C H L s ∧ vs = [.ref L.w, vN p, vN m] ∧ ∀ H', Same H H' → (∀ c, Cl06.copyOf s p m = some c → Q (.ref (L.ca p m)) H') ∧ (Cl06.copyOf s p m = none → Q .non H')
theorem ok_World_copy_of (T : Txt K mg C) (U : Env K mg C A) : FnOk P w K mg base CX0 1 A.f_World_copy_of A.d_World_copy_of ["self", "person", "number"] (sp_World_copy_of C) := by
  refine U.F_World_copy_of.ok sc_World_copy_of (fun vs H Q E h => ?_) (fun cdv A' outer s H vs Q E hr h => ?_)
  · obtain ⟨_, _, _, _, _, rfl, _⟩ := h
    rfl
  · obtain ⟨L, s', p, m, R, rfl, k⟩ := h
    obtain ⟨dw, hw⟩ := R.world
    refine ⟨_, (pss_one (ps_ret (pe_dget1 (hu_of hr) (pe_fld (pv 0) rfl) (pe_tup (pa_cons (pv 1) (pa_cons (pv 2) pa_nil))) ⟨rfl, rfl, rfl, rfl⟩))), ?_⟩
    refine ⟨_, rfl, rd_fld hw T.cl_o T.n_o_copies rfl ⟨L.dc, rfl, .inr ⟨_, .inl R.dc⟩, _, rfl, _, rfl, (show 2 ≤ sizeLine by decide), fun t ht => ⟨_, DGet.t (k := keyOf p m) (up R.dc (ne_of_none R.dc ht)) upd_same, ?_⟩⟩⟩
    obtain ⟨k1, k2⟩ := k (upd H t (.tup [vN p, vN m])) (Same.upd' ht)
    cases e : Cl06.copyOf s' p m with
    | none =>
      rw [valV_none R e]
      exact k2 e
    | some c =>
      rw [valV_some R e]
      exact k1 c e
def sp_World_send (C : Cs) : Sp := fun vs H Q _ => ∃ (L : Lay) (s : Cl06.State) (a : Addr) (l : Cl06.Letter), Rep C H L s ∧ vs = [.ref L.w, .ref a] ∧ LetAt C H a l ∧ LetOk s l ∧
  ∀ H' la, Stp C H L s H' { L with la := la } (Cl06.send s [l]) → Q .non H'
theorem ok_World_send (T : Txt K mg C) (U : Env K mg C A) : FnOk P w K mg base CX0 1 A.f_World_send A.d_World_send ["self", "letter"] (sp_World_send C) := by
  refine U.F_World_send.ok sc_World_send (fun vs H Q E h => ?_) (fun cdv A' outer s H vs Q E hr h => ?_)
  · obtain ⟨_, _, _, _, _, rfl, _⟩ := h
    rfl
  · obtain ⟨L, s', a, l, R, rfl, hl, hm, k⟩ := h
    obtain ⟨dw, hw⟩ := R.world
    have hll := R.ll
    refine ⟨_, (pss_one (ps_if (pt_cmpR op_lt (pe_callB call_len_seq rfl T.b_len PySem.boot_len (pa_cons (pe_fld (pv 0) rfl) pa_nil)) (pe_ci rfl T.k_MOST_LETTERS) (nomark _)) (pss_one (ps_expr (pe_bm PySem.F.plainAttrs_list PySem.F.slot_list_append PySem.F.type_list_append mt_append (pe_fld (pv 0) rfl) (pa_cons (pv 1) pa_nil)))) pss_nil)), ?_⟩
    refine ⟨_, rfl, rd_fld hw T.cl_o T.n_o_letters rfl ⟨_, _, rfl, .inl (SqL.of hll), _, _, rfl, rfl, _, rfl, ?_⟩⟩
    rw [List.length_map, R.llen]
    by_cases e : s'.letters.length < 100
    · rw [show decide (((s'.letters.length : Nat) : Int) < 100) = true from decide_eq_true (by omega)]
      refine iteT ?_
      refine ⟨_, rfl, rd_fld hw T.cl_o T.n_o_letters rfl ⟨.inl ⟨rfl, _, SqL.of hll⟩, _, rfl, _, _, _, rfl, rfl, hll, ?_, ?_⟩⟩
      · rw [List.length_map, R.llen]
        exact Nat.lt_trans e (by decide)
      · refine k _ (L.la ++ [a]) ?_
        rw [send_lt e]
        refine Stp.letters T.apart R (fun b o eo nb => by rw [upd_ne nb]; exact eo) ?_ ?_ (fun n b q h1 h2 => ?_) ?_ (fun q hq => ?_)
        · rw [upd_same, List.map_append]
          rfl
        · rw [List.length_append, List.length_append, R.llen]
          rfl
        · by_cases en : n < L.la.length
          · rw [List.getElem?_append_left en] at h1
            rw [List.getElem?_append_left (by rw [← R.llen]; exact en)] at h2
            exact R.lets n b q h1 h2
          · rw [List.getElem?_append_right (by omega)] at h1
            rw [List.getElem?_append_right (by rw [← R.llen]; omega)] at h2
            have h1 := List.mem_of_getElem? h1
            have h2 := List.mem_of_getElem? h2
            simp at h1 h2
            subst h1
            subst h2
            exact hl
        · rw [List.length_append, List.length_singleton]
          omega
        · rcases List.mem_append.mp hq with z | z
          · exact R.good.lets q z
          · simp at z
            subst z
            exact hm
    · rw [show decide (((s'.letters.length : Nat) : Int) < 100) = false from decide_eq_false (by omega)]
      refine iteF ?_
      refine k H L.la ?_
      have := R.good.room
      rw [send_full (by omega)]
      exact Stp.refl R
def sp_World_tell (C : Cs) : Sp := fun vs H Q _ => ∃ (L : Lay) (s : Cl06.State) (i j : Nat) (x : Cl06.Meeting) (g : Cl06.Guest), Rep C H L s ∧ s.meetings[i]? = some x ∧ x.guests[j]? = some g ∧ vs = [.ref L.w, .ref (L.ma i), .ref (L.ga i j)] ∧
  ∀ H' la, Stp C H L s H' { L with la := la } (tell1 s i x j g) → Q .non H'
theorem ok_World_tell (T : Txt K mg C) (U : Env K mg C A) : FnOk P w K mg base CX0 3 A.f_World_tell A.d_World_tell ["self", "meeting", "guest"] (sp_World_tell C) := by
  refine U.F_World_tell.ok sc_World_tell (fun vs H Q E h => ?_) (fun cdv A' outer s H vs Q E hr h => ?_)
  · obtain ⟨_, _, _, _, _, _, _, _, _, rfl, _⟩ := h
    rfl
  · obtain ⟨L, s', i, j, x, g, R, hx, hg, rfl, k⟩ := h
    obtain ⟨dg, hga⟩ := R.guest hx hg
    refine ⟨_, (pss_cons (ps_fldaug (pv 2) pe_int in_add) (pss_one (ps_expr (pe_meth (pv 0) T.cl_o U.m_World_send (ok_World_send T U) (hr.mono (by decide)) U.b_World_send .nil pass0 (pa_cons (pe_make U.M_w (ok_Word_init T U) hr rfl T.mg_w U.b_Word_init .nil pass0 (pa_cons (pv 1) (pa_cons (pv 2) pa_nil))) pa_nil))))), ?_⟩
    refine ⟨_, rfl, _, C.g, dg, gf g, _, rfl, hga, T.cl_g, T.n_g_words, rfl, _, _, rfl, rfl, dg, gf g, hga, (show 6 < 1000 by decide), ?_⟩
    have S1 : Stp C H L s' (upd H (L.ga i j) (.ins C.g dg (putF "words" (.int ((g.words : Int) + 1)) (gf g)))) L (Cl06.setMeeting s' i { x with guests := x.guests.set j (more g) }) :=
      Stp.guest (g' := more g) T.apart R hx hg rfl (fun b o e n => up e n) ⟨dg, upd_same⟩
    generalize upd H (L.ga i j) (.ins C.g dg (putF "words" (.int ((g.words : Int) + 1)) (gf g))) = H1 at S1 ⊢
    have R1 := S1.rep
    have hx1 : (Cl06.setMeeting s' i { x with guests := x.guests.set j (more g) }).meetings[i]? = some { x with guests := x.guests.set j (more g) } := (get_set hx).trans (if_pos rfl)
    have hg1 : ({ x with guests := x.guests.set j (more g) } : Cl06.Meeting).guests[j]? = some (more g) := (get_set hg).trans (if_pos rfl)
    obtain ⟨dw, hw⟩ := R1.world
    obtain ⟨dm, hm⟩ := R1.meet hx1
    obtain ⟨dg1, hga1⟩ := R1.guest hx1 hg1
    refine ⟨_, rfl, _, dw, _, rfl, hw, rfl, _, rfl, _, rfl, fun y dy hy hdy ny => ?_⟩
    have nn : ∀ b o, H1 b = some o → b ≠ y ∧ b ≠ dy := fun b o e => ⟨ne_of_none e hy, ne_of_none e hdy⟩
    have kp : ∀ b o, H1 b = some o → upd (upd H1 dy (.own y)) y (.ins C.w dy []) b = some o := fun b o e => up (up e (nn b o e).2) (nn b o e).1
    refine ⟨y, dy, _, dm, _, _, dg1, i, _, _, rfl, upd_same, kp _ _ hm, kp _ _ hga1, rfl, ?_⟩
    rw [upd_upd]
    have s2 : Same H1 (upd (upd H1 dy (.own y)) y (.ins C.w dy (wf (Cl06.word { x with guests := x.guests.set j (more g) } i (more g))))) := fun b o e => up (up e (nn b o e).2) (nn b o e).1
    have S2 := R1.laid s2
    refine ⟨L, _, y, Cl06.word { x with guests := x.guests.set j (more g) } i (more g), S2.rep, rfl, .inl ⟨rfl, dy, upd_same⟩, ⟨?_, fun _ => ⟨(R.good.who i x g hx (List.mem_of_getElem? hg)).1, ?_⟩⟩, fun H' la S3 => ?_⟩
    · exact (List.getElem?_eq_some_iff.mp hx1).1
    · intro x' hx'
      rw [show (Cl06.word { x with guests := x.guests.set j (more g) } i (more g)).meeting = i from rfl, hx1] at hx'
      cases hx'
      exact (R.good.who i x g hx (List.mem_of_getElem? hg)).2
    · exact k H' la (S1.trans (S2.trans S3))
end
end Cw
end

section
set_option Elab.async false
set_option linter.all false
set_option maxRecDepth 100000
set_option maxHeartbeats 2000000
namespace Cw
open PySem PySem.Spec PyProof.Rows L2
section
variable {P : Program} {w : World} {K : PySem.W.Frag} {mg : Str → Option Value} {base : Heap} {C : Cs} {A : Ad}
def sp_World_tell_asked (C : Cs) : Sp := fun vs H Q _ => ∃ (L : Lay) (s : Cl06.State) (i : Nat) (x : Cl06.Meeting), Rep C H L s ∧ s.meetings[i]? = some x ∧ vs = [.ref L.w, .ref (L.ma i)] ∧
  ∀ H' la, Stp C H L s H' { L with la := la } (Cl06.tell s i fun g => g.asked) → Q (vN (x.guests.filter fun g => g.asked).length) H'
theorem mem_take_ix {js : List Nat} (hn : js.Nodup) {k j : Nat} (h : js[k]? = some j) : j ∉ js.take k := fun q => by
  obtain ⟨m, hm⟩ := List.mem_iff_getElem?.mp q
  have hlt : m < (js.take k).length := (List.getElem?_eq_some_iff.mp hm).1
  rw [List.length_take] at hlt
  rw [List.getElem?_take_of_lt (by omega)] at hm
  have := nd_ix hn h hm
  omega
theorem take_snoc' {α : Type} {l : List α} {i : Nat} {x : α} (h : l[i]? = some x) : l.take (i + 1) = l.take i ++ [x] := by
  rw [List.take_succ, h]
  rfl
theorem ok_World_tell_asked (T : Txt K mg C) (U : Env K mg C A) : FnOk P w K mg base CX0 4 A.f_World_tell_asked A.d_World_tell_asked ["self", "meeting"] (sp_World_tell_asked C) := by
  refine U.F_World_tell_asked.ok sc_World_tell_asked (fun vs H Q E h => ?_) (fun cdv A' outer s H vs Q E hr h => ?_)
  · obtain ⟨_, _, _, _, _, _, rfl, _⟩ := h
    rfl
  · obtain ⟨L, s', i, x, R, hx, rfl, k⟩ := h
    obtain ⟨dm, hm⟩ := R.meet hx
    have nd := ixs_nodup (fun g => g.asked) x x.guests.length
    have hjs : ∀ j ∈ ixs (fun g => g.asked) x x.guests.length, j < x.guests.length := fun j hj => (mem_ixs.mp hj).1
    have hlen := ixs_len (fun g => g.asked) x
    have htold := tell_told hx (fun g => g.asked) fun g _ => rfl
    rw [htold, ← hlen] at k
    refine ⟨_, (pss_cons (ps_set (i := 2) sc_World_tell_asked.nd rfl (Or.inl rfl) (pe_meth0 (pv 1) T.cl_m U.m_Meeting_asked_guests (ok_Meeting_asked_guests T U) (hr.mono (by decide)) U.b_Meeting_asked_guests .nil pass0)) (pss_cons (ps_for PassesOwn.never rfl (pi_list (pv 2)) (pg_name (i := 3) sc_World_tell_asked.nd rfl (Or.inl rfl)) (pss_one (ps_expr (pe_meth (pv 0) T.cl_o U.m_World_tell (ok_World_tell T U) hr U.b_World_tell .nil pass0 (pa_cons (pv 1) (pa_cons (pv 3) pa_nil)))))) (pss_one (ps_ret (pe_callB call_len_seq rfl T.b_len PySem.boot_len (pa_cons (pv 2) pa_nil)))))), ?_⟩
    refine ⟨_, rfl, _, dm, _, rfl, hm, rfl, L, s', i, x, R, hx, rfl, fun D hD => ?_⟩
    generalize ixs (fun g => g.asked) x x.guests.length = js at *
    have S0 : Stp C H L s' (upd H D (.lst (js.map fun j => V.ref (L.ga i j)))) L s' := R.laid (Same.upd' hD)
    have nD : ¬ Foot C L s' D := R.fresh hD
    have eD : upd H D (.lst (js.map fun j => V.ref (L.ga i j))) D = some (.lst (js.map fun j => V.ref (L.ga i j))) := upd_same
    generalize upd H D (.lst (js.map fun j => V.ref (L.ga i j))) = H1 at S0 eD ⊢
    refine ⟨_, rfl, D, rfl, ⟨_, SqL.of eD⟩, for_list (K := K) (a := D) (xs := js.map fun j => V.ref (L.ga i j)) (fun n σ H' => (∃ v : Option V, σ = [some (.ref L.w), some (.ref (L.ma i)), some (.ref D), v]) ∧ ∃ la, Stp C H1 L s' H' { L with la := la } (told s' i x (js.take n)))
      ⟨⟨none, rfl⟩, L.la, ?_⟩ (fun n σ H' _ ⟨_, la, S⟩ => SqL.of (S.keep _ _ eD nD)) ?_ ?_⟩
    · rw [List.take_zero, told_nil hx R.good.room]
      exact Stp.refl S0.rep
    · rintro n y σ H' hy ⟨⟨v, rfl⟩, la, S⟩
      rw [List.getElem?_map] at hy
      obtain ⟨j, hj, rfl⟩ := Option.map_eq_some_iff.mp hy
      have hjn := hjs j (List.mem_of_getElem? hj)
      obtain ⟨g, hg⟩ : ∃ g, x.guests[j]? = some g := ⟨_, List.getElem?_eq_getElem hjn⟩
      have nj := mem_take_ix nd hj
      have hxk : (told s' i x (js.take n)).meetings[i]? = some (bump x (js.take n)) := (get_set hx).trans (if_pos rfl)
      have hgk : (bump x (js.take n)).guests[j]? = some g := by
        rw [bump_get, hg]
        show some (if j ∈ js.take n then more g else g) = some g
        rw [if_neg nj]
      obtain ⟨dw, hw⟩ := S.rep.world
      refine ⟨_, rfl, _, dw, _, rfl, hw, rfl, _, rfl, _, rfl, { L with la := la }, _, i, j, _, g, S.rep, hxk, hgk, rfl, fun H'' la' S' => ?_⟩
      refine ⟨⟨_, rfl⟩, la', ?_⟩
      rw [take_snoc' hj, ← told_snoc hg nj]
      exact S.trans S'
    · rintro σ H' ⟨⟨v, rfl⟩, la, S⟩
      rw [List.length_map, List.take_length] at S
      refine ⟨_, rfl, D, _, rfl, .inl (SqL.of (S.keep _ _ eD nD)), ?_⟩
      rw [List.length_map]
      exact k H' la (S0.trans S)
def sp_World_move (C : Cs) : Sp := fun vs H Q _ => ∃ (L : Lay) (s : Cl06.State) (i t : Nat) (x : Cl06.Meeting), Rep C H L s ∧ s.meetings[i]? = some x ∧ vs = [.ref L.w, .ref (L.ma i), vN t] ∧
  ∀ H' la, Stp C H L s H' { L with la := la } (Cl06.moved s i t) → Q .non H'
def reset (g : Cl06.Guest) : Cl06.Guest := { g with answer := 0, wish := none }
def resetTo (x : Cl06.Meeting) (k : Nat) : Cl06.Meeting := { x with guests := x.guests.mapIdx fun j g => if j < k then reset g else g }
theorem reset_get (x : Cl06.Meeting) (k n : Nat) : (resetTo x k).guests[n]? = (x.guests[n]?).map fun g => if n < k then reset g else g := List.getElem?_mapIdx
theorem reset_len (x : Cl06.Meeting) (k : Nat) : (resetTo x k).guests.length = x.guests.length := by
  show (x.guests.mapIdx _).length = _
  simp
theorem reset_zero (x : Cl06.Meeting) : resetTo x 0 = x := by
  have : (resetTo x 0).guests = x.guests := by
    apply List.ext_getElem?
    intro n
    rw [reset_get]
    cases x.guests[n]? <;> simp
  unfold resetTo at *
  rw [show (x.guests.mapIdx fun j g => if j < 0 then reset g else g) = x.guests from this]
theorem reset_succ {x : Cl06.Meeting} {k : Nat} {g : Cl06.Guest} (hg : x.guests[k]? = some g) : ({ resetTo x k with guests := (resetTo x k).guests.set k (reset g) } : Cl06.Meeting) = resetTo x (k + 1) := by
  have : (resetTo x k).guests.set k (reset g) = (resetTo x (k + 1)).guests := by
    apply List.ext_getElem?
    intro n
    rw [List.getElem?_set, reset_get, reset_get, reset_len]
    by_cases e : k = n
    · subst e
      rw [if_pos rfl, if_pos (List.getElem?_eq_some_iff.mp hg).1, hg]
      show some (reset g) = some (if k < k + 1 then reset g else g)
      rw [if_pos (Nat.lt_succ_self _)]
    · rw [if_neg e]
      congr 1
      funext g'
      by_cases q : n < k
      · rw [if_pos q, if_pos (by omega)]
      · rw [if_neg q, if_neg (by omega)]
  rw [this]
  rfl
theorem reset_all (x : Cl06.Meeting) : resetTo x x.guests.length = { x with guests := x.guests.map reset } := by
  have : (resetTo x x.guests.length).guests = x.guests.map reset := by
    apply List.ext_getElem?
    intro n
    rw [reset_get, List.getElem?_map]
    cases e : x.guests[n]? with
    | none => rfl
    | some g =>
      show some _ = some _
      congr 1
      dsimp only
      rw [if_pos (List.getElem?_eq_some_iff.mp e).1]
  unfold resetTo at *
  rw [show (x.guests.mapIdx fun j g => if j < x.guests.length then reset g else g) = x.guests.map reset from this]
theorem ok_World_move (T : Txt K mg C) (U : Env K mg C A) : FnOk P w K mg base CX0 5 A.f_World_move A.d_World_move ["self", "meeting", "time"] (sp_World_move C) := by
  refine U.F_World_move.ok sc_World_move (fun vs H Q E h => ?_) (fun cdv A' outer s H vs Q E hr h => ?_)
  · obtain ⟨_, _, _, _, _, _, _, rfl, _⟩ := h
    rfl
  · obtain ⟨L, s', i, t, x, R, hx, rfl, k⟩ := h
    obtain ⟨dm, hm⟩ := R.meet hx
    refine ⟨_, (pss_cons (ps_fldaug (pv 1) pe_int in_add) (pss_cons (ps_fld (pv 1) (pv 2) rfl) (pss_cons (ps_for PassesOwn.never rfl (pi_list (pe_fld (pv 1) rfl)) (pg_name (i := 3) sc_World_move.nd rfl (Or.inl rfl)) (pss_cons (ps_fld (pv 3) (pe_ci rfl T.k_NO_ANSWER) rfl) (pss_one (ps_fld (pv 3) (pe_ci rfl T.k_NO_TIME) rfl)))) (pss_one (ps_expr (pe_meth (pv 0) T.cl_o U.m_World_tell_asked (ok_World_tell_asked T U) hr U.b_World_tell_asked .nil pass0 (pa_cons (pv 1) pa_nil))))))), ?_⟩
    refine ⟨_, rfl, _, C.m, dm, mf i (L.gl i) x, _, rfl, hm, T.cl_m, T.n_m_round_no, rfl, _, _, rfl, rfl, dm, mf i (L.gl i) x, hm, (show 6 < 1000 by decide), ?_⟩
    refine ⟨_, rfl, _, rfl, st_fld upd_same T.cl_m T.n_m_time (show 6 < 1000 by decide) ?_⟩
    rw [upd_upd]
    have S1 : Stp C H L s' (upd H (L.ma i) (.ins C.m dm (putF "time" (vN t) (putF "round_no" (.int ((x.round : Int) + 1)) (mf i (L.gl i) x))))) L (Cl06.setMeeting s' i { x with round := x.round + 1, time := t }) :=
      Stp.meeting (x' := { x with round := x.round + 1, time := t }) T.apart R hx rfl rfl (fun b o e n => up e n) ⟨dm, upd_same⟩
    generalize upd H (L.ma i) (.ins C.m dm (putF "time" (vN t) (putF "round_no" (.int ((x.round : Int) + 1)) (mf i (L.gl i) x)))) = H1 at S1 ⊢
    obtain ⟨y, hy⟩ : ∃ y : Cl06.Meeting, y = { x with round := x.round + 1, time := t } := ⟨_, rfl⟩
    have hmv : Cl06.moved s' i t = Cl06.tell (Cl06.setMeeting s' i (resetTo y y.guests.length)) i fun g => g.asked := by
      rw [reset_all, hy]
      unfold Cl06.moved
      have em : Cl06.meeting s' i = x := by
        unfold Cl06.meeting
        rw [List.getD_eq_getElem?_getD, hx]
        rfl
      rw [em]
      rfl
    rw [← hy] at S1
    have hy1 : (Cl06.setMeeting s' i y).meetings[i]? = some y := (get_set hx).trans (if_pos rfl)
    obtain ⟨dm1, hm1⟩ := S1.rep.meet hy1
    have hgl := S1.rep.gl hy1
    have mk : ∀ n, (Cl06.setMeeting s' i (resetTo y n)).meetings[i]? = some (resetTo y n) := fun n => (get_set hx).trans (if_pos rfl)
    refine ⟨_, rfl, rd_fld hm1 T.cl_m T.n_m_guests rfl ⟨_, rfl, ⟨_, SqL.of hgl⟩, for_list (K := K) (a := L.gl i) (xs := guestsV L i y.guests.length)
      (fun n σ H' => (∃ v : Option V, σ = [some (.ref L.w), some (.ref (L.ma i)), some (vN t), v]) ∧ Stp C H1 L (Cl06.setMeeting s' i y) H' L (Cl06.setMeeting s' i (resetTo y n)))
      ⟨⟨none, rfl⟩, ?_⟩ (fun n σ H' _ ⟨_, S⟩ => SqL.of (by have := S.rep.gl (mk n); rw [reset_len] at this; exact this)) ?_ ?_⟩⟩
    · rw [reset_zero]
      exact Stp.refl S1.rep
    · rintro n v σ H' hv ⟨⟨v0, rfl⟩, S⟩
      obtain ⟨hlt, rfl⟩ := guestsV_at hv
      obtain ⟨g, hg⟩ : ∃ g, y.guests[n]? = some g := ⟨_, List.getElem?_eq_getElem hlt⟩
      have hgk : (resetTo y n).guests[n]? = some g := by
        rw [reset_get, hg]
        show some (if n < n then reset g else g) = _
        rw [if_neg (Nat.lt_irrefl _)]
      obtain ⟨dg, hga⟩ := S.rep.guest (mk n) hgk
      refine ⟨_, rfl, st_fld hga T.cl_g T.n_g_answer (show 6 < 1000 by decide) ?_⟩
      refine ⟨_, rfl, st_fld upd_same T.cl_g T.n_g_wish (show 6 < 1000 by decide) ?_⟩
      rw [upd_upd]
      refine ⟨⟨_, rfl⟩, ?_⟩
      have S2 := Stp.guest (g' := reset g) (H' := upd H' (L.ga i n) (.ins C.g dg (gf (reset g)))) T.apart S.rep (mk n) hgk rfl (fun b o e q => up e q) ⟨dg, upd_same⟩
      have e2 : Cl06.setMeeting (Cl06.setMeeting s' i (resetTo y n)) i { resetTo y n with guests := (resetTo y n).guests.set n (reset g) } = Cl06.setMeeting s' i (resetTo y (n + 1)) := by
        rw [reset_succ hg]
        unfold Cl06.setMeeting
        show Cl06.State.mk ((s'.meetings.set i _).set i _) _ _ = _
        rw [List.set_set]
      rw [e2] at S2
      exact S.trans S2
    · rintro σ H' ⟨⟨v0, rfl⟩, S⟩
      rw [guestsV_len] at S
      obtain ⟨dw, hw⟩ := S.rep.world
      refine ⟨_, rfl, _, dw, _, rfl, hw, rfl, _, rfl, L, _, i, _, S.rep, mk _, rfl, fun H'' la S3 => ?_⟩
      rw [← hmv] at S3
      exact k H'' la (S1.trans (S.trans S3))
end
end Cw
end

section
set_option Elab.async false
set_option linter.all false
set_option maxRecDepth 100000
set_option maxHeartbeats 2000000
namespace Cw
open PySem PySem.Spec PyProof.Rows L2
section
variable {P : Program} {w : World} {K : PySem.W.Frag} {mg : Str → Option Value} {base : Heap} {C : Cs} {A : Ad}
def newG (q : Nat) : Cl06.Guest := ⟨q, 0, true, 0, 0, none⟩
def newM (h t : Nat) (ps : List Nat) : Cl06.Meeting := ⟨h, 1, t, false, ps.map newG⟩
def sp_Meeting_init (C : Cs) : Sp := fun vs H Q _ => ∃ (p dx pl : Addr) (n h t : Nat) (ps : List Nat), vs = [.ref p, vN n, vN h, vN t, .ref pl] ∧ H p = some (.ins C.m dx []) ∧ H pl = some (.lst (ps.map vN)) ∧ ps.length ≤ 1000 ∧
  ∀ (H' : Hp) (gl : Addr) (gs : List Addr), H' p = some (.ins C.m dx (mf n gl (newM h t ps))) → H' gl = some (.lst (gs.map V.ref)) → gs.length = ps.length →
    (∀ (j : Nat) b q, gs[j]? = some b → ps[j]? = some q → At H' b (.ins C.g (gf (newG q)))) → gs.Nodup → (∀ b ∈ gs, H b = none) → H gl = none → (∀ b o, H b = some o → b ≠ p → H' b = some o) → Q .non H'
theorem ok_Meeting_init (T : Txt K mg C) (U : Env K mg C A) : FnOk P w K mg base CX0 3 A.f_Meeting_init A.d_Meeting_init ["self", "number", "host", "time", "people"] (sp_Meeting_init C) := by
  refine U.F_Meeting_init.ok sc_Meeting_init (fun vs H Q E h => ?_) (fun cdv A' outer s H vs Q E hr h => ?_)
  · obtain ⟨_, _, _, _, _, _, _, rfl, _⟩ := h
    rfl
  · obtain ⟨p, dx, pl, n, h, t, ps, rfl, hp, hpl, hps, k⟩ := h
    refine ⟨_, (pss_cons (ps_fld (pv 0) (pv 1) rfl) (pss_cons (ps_fld (pv 0) (pv 2) rfl) (pss_cons (ps_fld (pv 0) (pv 3) rfl) (pss_cons (ps_fld (pv 0) pe_int rfl) (pss_cons (ps_fld (pv 0) pe_int rfl) (pss_one (ps_fld (pv 0) (pe_lc (own := [("person", 5)]) (g := gName 5) rfl sc_Meeting_init.nd (pi_list (pv 4)) (blkOk_by (own := [("person", 5)]) (N := ["self", "number", "host", "time", "people", "person"]) (sc := defScope s_Meeting_init) (by decide +kernel)) (fun _ _ _ _ _ => pg_name (i := 5) sc_Meeting_init.nd rfl (Or.inl rfl)) (fun _ _ _ _ _ => pts_nil) (fun _ _ _ _ _ => (pe_make U.M_g (ok_Guest_init T U) hr rfl T.mg_g U.b_Guest_init .nil pass0 (pa_cons (pv 5) pa_nil)))) rfl))))))), ?_⟩
    refine ⟨_, rfl, _, rfl, st_fld hp T.cl_m T.n_m_number (show 0 < 1000 by decide) ?_⟩
    refine ⟨_, rfl, _, rfl, st_fld upd_same T.cl_m T.n_m_host (show 1 < 1000 by decide) ?_⟩
    rw [upd_upd]
    refine ⟨_, rfl, _, rfl, st_fld upd_same T.cl_m T.n_m_time (show 2 < 1000 by decide) ?_⟩
    rw [upd_upd]
    refine ⟨_, rfl, st_fld upd_same T.cl_m T.n_m_round_no (show 3 < 1000 by decide) ?_⟩
    rw [upd_upd]
    refine ⟨_, rfl, st_fld upd_same T.cl_m T.n_m_off (show 4 < 1000 by decide) ?_⟩
    rw [upd_upd]
    have npl : pl ≠ p := ne_of hpl hp (by intro z; cases z)
    obtain ⟨H1, eH1⟩ : ∃ H1, H1 = upd H p (.ins C.m dx (putF "off" (.int 0) (putF "round_no" (.int 1) (putF "time" (vN t) (putF "host" (vN h) (putF "number" (vN n) [])))))) := ⟨_, rfl⟩
    have hp1 : H1 p = some (.ins C.m dx [("number", vN n), ("host", vN h), ("time", vN t), ("round_no", .int 1), ("off", .int 0)]) := by rw [eH1]; exact upd_same
    have hpl1 : H1 pl = some (.lst (ps.map vN)) := by rw [eH1]; exact up hpl npl
    have fr1 : ∀ b o, H b = some o → b ≠ p → H1 b = some o := fun b o e nb => by rw [eH1]; exact up e nb
    have fe1 : ∀ b, H1 b = none → H b = none := fun b e => by
      rw [eH1] at e
      by_cases q : b = p
      · subst q; rw [upd_same] at e; cases e
      · rw [upd_ne q] at e; exact e
    rw [← eH1]
    refine ⟨_, rfl, pl, rfl, ⟨_, SqL.of hpl1⟩, fun D hD => lc_list (K := K) (a := pl) (xs := ps.map vN)
      (fun m H' => ∃ gs : List Addr, H' D = some (.lst (gs.map V.ref)) ∧ gs.length = m ∧ (∀ (j : Nat) b q, gs[j]? = some b → ps[j]? = some q → At H' b (.ins C.g (gf (newG q)))) ∧ gs.Nodup ∧ (∀ b ∈ gs, H1 b = none ∧ b ≠ D) ∧ Same H1 H')
      ⟨[], upd_same, rfl, fun j b q e => by simp at e, List.nodup_nil, fun b hb => by simp at hb, Same.upd' hD⟩ (fun m H' _ ⟨gs, _, _, _, _, _, sm⟩ => SqL.of (sm _ _ hpl1)) ?_ ?_⟩
    · rintro m y H' hy ⟨gs, g1, g2, g3, g4, g5, g6⟩
      rw [List.getElem?_map] at hy
      obtain ⟨q, hq, rfl⟩ := Option.map_eq_some_iff.mp hy
      refine ⟨rfl, ?_⟩
      refine lc_yes ?_
      refine ⟨_, rfl, fun z dz hz hdz nz => ⟨z, dz, q, rfl, upd_same, rfl, ?_⟩⟩
      rw [upd_upd]
      have nDz : D ≠ z := ne_of_none g1 hz
      have nDd : D ≠ dz := ne_of_none g1 hdz
      have s1 : Same H' (upd (upd H' dz (.own z)) z (.ins C.g dz (gf (newG q)))) := fun b o e => up (up e (ne_of_none e hdz)) (ne_of_none e hz)
      refine ⟨gs.map V.ref, s1 _ _ g1, ?_, gs ++ [z], ?_, ?_, ?_, ?_, ?_, ?_⟩
      · rw [List.length_map, g2]
        have := (List.getElem?_eq_some_iff.mp hq).1
        exact Nat.lt_of_lt_of_le (Nat.lt_of_lt_of_le this hps) (by decide)
      · rw [upd_same, List.map_append]
        rfl
      · rw [List.length_append, g2]
        rfl
      · intro j b q' h1 h2
        by_cases e : j < gs.length
        · rw [List.getElem?_append_left e] at h1
          have nb := g5 b (List.mem_of_getElem? h1)
          refine (g3 j b q' h1 h2).keep fun o eo => up (s1 _ _ eo) nb.2
        · have : j = gs.length := by
            have := (List.getElem?_eq_some_iff.mp h1).1
            rw [List.length_append, List.length_singleton] at this
            omega
          subst this
          rw [List.getElem?_append_right (Nat.le_refl _), Nat.sub_self] at h1
          cases h1
          rw [g2, hq] at h2
          cases h2
          exact ⟨dz, up upd_same nDz.symm⟩
      · refine List.nodup_append.mpr ⟨g4, by simp, fun a ha b hb e => ?_⟩
        simp at hb
        subst e
        subst hb
        obtain ⟨j, hj⟩ := List.mem_iff_getElem?.mp ha
        have hlt : j < ps.length := by
          have h1 := (List.getElem?_eq_some_iff.mp hj).1
          have h2 := (List.getElem?_eq_some_iff.mp hq).1
          omega
        obtain ⟨o, eo⟩ := (g3 j a _ hj (List.getElem?_eq_getElem hlt)).some
        rw [hz] at eo
        cases eo
      · intro b hb
        rcases List.mem_append.mp hb with q1 | q1
        · exact g5 b q1
        · simp at q1
          subst q1
          exact ⟨g6.free hz, nDz.symm⟩
      · intro b o e
        exact up (s1 _ _ (g6 b o e)) (ne_of_none e hD)
    · rintro H' ⟨gs, g1, g2, g3, g4, g5, g6⟩
      rw [List.length_map] at g2
      refine ⟨_, rfl, st_fld (g6 _ _ hp1) T.cl_m T.n_m_guests (show 5 < 1000 by decide) ?_⟩
      have nDp : D ≠ p := fun e => by rw [e, hp1] at hD; cases hD
      have ngp : ∀ b ∈ gs, b ≠ p := fun b hb e => by
        have := (g5 b hb).1
        rw [e, hp1] at this
        cases this
      refine k _ D gs upd_same (up g1 nDp) g2 (fun j b q h1 h2 => (g3 j b q h1 h2).keep fun o eo => up eo (ngp b (List.mem_of_getElem? h1))) g4 (fun b hb => fe1 b (g5 b hb).1) (fe1 D hD) fun b o e nb => up (g6 b o (fr1 b o e nb)) nb
def sp_World_add_meeting (C : Cs) : Sp := fun vs H Q _ => ∃ (L : Lay) (s : Cl06.State) (h t : Nat) (ps : List Nat) (pl : Addr), Rep C H L s ∧ vs = [.ref L.w, vN h, vN t, .ref pl] ∧ H pl = some (.lst (ps.map vN)) ∧ ps.length ≤ 1000 ∧
  s.meetings.length < 6 ∧ ps.Nodup ∧ (∀ q ∈ ps, q < 5 ∧ q ≠ h) ∧ ∀ H' L', Stp C H L s H' L' (Cl06.tell { s with meetings := s.meetings ++ [newM h t ps] } s.meetings.length fun _ => true) → Q (vN s.meetings.length) H'
theorem meetsV_len (L : Lay) (n : Nat) : (meetsV L n).length = n := by simp [meetsV]
theorem tell_congr {s : Cl06.State} {i : Nat} {x : Cl06.Meeting} (hx : s.meetings[i]? = some x) (p q : Cl06.Guest → Bool) (hp : ∀ g ∈ x.guests, p (more g) = p g) (hq : ∀ g ∈ x.guests, q (more g) = q g) (e : ∀ g ∈ x.guests, p g = q g) : Cl06.tell s i p = Cl06.tell s i q := by
  rw [tell_told hx p hp, tell_told hx q hq]
  congr 1
  unfold ixs
  apply List.filter_congr
  intro j hj
  cases h : x.guests[j]? with
  | none => rfl
  | some g => exact e g (List.mem_of_getElem? h)
theorem ok_World_add_meeting (T : Txt K mg C) (U : Env K mg C A) : FnOk P w K mg base CX0 5 A.f_World_add_meeting A.d_World_add_meeting ["self", "host", "time", "people"] (sp_World_add_meeting C) := by
  refine U.F_World_add_meeting.ok sc_World_add_meeting (fun vs H Q E h => ?_) (fun cdv A' outer s H vs Q E hr h => ?_)
  · obtain ⟨_, _, _, _, _, _, _, rfl, _⟩ := h
    rfl
  · obtain ⟨L, s', h, t, ps, pl, R, rfl, hpl, hps, h6, hnd, hw5, k⟩ := h
    obtain ⟨dw, hw⟩ := R.world
    refine ⟨_, (pss_cons (ps_set (i := 4) sc_World_add_meeting.nd rfl (Or.inl rfl) (pe_make U.M_m (ok_Meeting_init T U) hr rfl T.mg_m U.b_Meeting_init .nil pass0 (pa_cons (pe_callB call_len_seq rfl T.b_len PySem.boot_len (pa_cons (pe_fld (pv 0) rfl) pa_nil)) (pa_cons (pv 1) (pa_cons (pv 2) (pa_cons (pv 3) pa_nil)))))) (pss_cons (ps_expr (pe_bm PySem.F.plainAttrs_list PySem.F.slot_list_append PySem.F.type_list_append mt_append (pe_fld (pv 0) rfl) (pa_cons (pv 4) pa_nil))) (pss_cons (ps_expr (pe_meth (pv 0) T.cl_o U.m_World_tell_asked (ok_World_tell_asked T U) hr U.b_World_tell_asked .nil pass0 (pa_cons (pv 4) pa_nil))) (pss_one (ps_ret (pe_fld (pv 4) rfl)))))), ?_⟩
    refine ⟨_, rfl, rd_fld hw T.cl_o T.n_o_meetings rfl ⟨_, _, rfl, .inl (SqL.of R.lm), _, rfl, _, rfl, _, rfl, fun y dy hy hdy ny => ?_⟩⟩
    have s0 : Same H (upd (upd H dy (.own y)) y (.ins C.m dy [])) := fun b o e => up (up e (ne_of_none e hdy)) (ne_of_none e hy)
    refine ⟨y, dy, pl, _, h, t, ps, rfl, upd_same, s0 _ _ hpl, hps, fun H2 gl gs g1 g2 g3 g4 g5 g6 g7 g8 => ⟨rfl, ?_⟩⟩
    rw [meetsV_len] at g1
    have fr2 : Same H H2 := fun b o e => g8 b o (s0 b o e) (ne_of_none e hy)
    have hgl : H gl = none := s0.free g7
    have hgs : ∀ b ∈ gs, H b = none := fun b hb => s0.free (g6 b hb)
    have hw2 := fr2 _ _ hw
    have hlm2 := fr2 _ _ R.lm
    refine ⟨_, rfl, rd_fld hw2 T.cl_o T.n_o_meetings rfl ⟨.inl ⟨rfl, _, SqL.of hlm2⟩, _, rfl, _, _, _, rfl, rfl, hlm2, ?_, ?_⟩⟩
    · rw [meetsV_len]
      exact Nat.lt_trans h6 (by decide)
    · have nlm : ∀ b, H b = none → b ≠ L.lm := fun b e q => by rw [q, R.lm] at e; cases e
      have glen : gs.length = (newM h t ps).guests.length := by
        show gs.length = (ps.map newG).length
        rw [List.length_map]; exact g3
      have S1 : Stp C H L s' (upd H2 L.lm (.lst (meetsV L s'.meetings.length ++ [V.ref y]))) (L.newMeeting s'.meetings.length y gl gs) { s' with meetings := s'.meetings ++ [newM h t ps] } := by
        refine Stp.newMeeting T.apart R h6 ?_ ?_ hy hgl hgs g5 glen (fun b o e nb => up (fr2 b o e) nb) upd_same ⟨dy, up g1 (nlm y hy)⟩ (up g2 (nlm gl hgl)) (fun j b g h1 h2 => ?_)
        · show ((ps.map newG).map (·.who)).Nodup
          rw [List.map_map]
          have : ((fun g : Cl06.Guest => g.who) ∘ newG) = id := rfl
          rw [this, List.map_id]
          exact hnd
        · intro g hg
          obtain ⟨q, hq, rfl⟩ := List.mem_map.mp (show g ∈ ps.map newG from hg)
          exact hw5 q hq
        · have h2 : (ps.map newG)[j]? = some g := h2
          rw [List.getElem?_map] at h2
          obtain ⟨q, hq, rfl⟩ := Option.map_eq_some_iff.mp h2
          exact (g4 j b q h1 hq).keep fun o eo => up eo (nlm b (hgs b (List.mem_of_getElem? h1)))
      generalize upd H2 L.lm (.lst (meetsV L s'.meetings.length ++ [V.ref y])) = H3 at S1 ⊢
      have ey : (L.newMeeting s'.meetings.length y gl gs).ma s'.meetings.length = y := if_pos rfl
      have hx : ({ s' with meetings := s'.meetings ++ [newM h t ps] } : Cl06.State).meetings[s'.meetings.length]? = some (newM h t ps) := by
        show (s'.meetings ++ [newM h t ps])[s'.meetings.length]? = _
        simp
      obtain ⟨dw3, hw3⟩ := S1.rep.world
      refine ⟨_, rfl, _, dw3, _, rfl, hw3, rfl, _, rfl, L.newMeeting s'.meetings.length y gl gs, _, s'.meetings.length, _, S1.rep, hx, (by rw [ey]; rfl), fun H4 la S4 => ?_⟩
      have hx4 : (Cl06.tell { s' with meetings := s'.meetings ++ [newM h t ps] } s'.meetings.length fun g => g.asked).meetings[s'.meetings.length]? = some (bump (newM h t ps) (ixs (fun g => g.asked) (newM h t ps) (newM h t ps).guests.length)) := by
        rw [tell_told hx (fun g => g.asked) fun g _ => rfl]
        exact (get_set hx).trans (if_pos rfl)
      obtain ⟨dm4, hm4⟩ := S4.rep.meet hx4
      have hm4 : H4 ((L.newMeeting s'.meetings.length y gl gs).ma s'.meetings.length) = _ := hm4
      rw [ey] at hm4
      refine ⟨_, rfl, rd_fld hm4 T.cl_m T.n_m_number rfl ?_⟩
      refine k H4 { L.newMeeting s'.meetings.length y gl gs with la := la } (S1.trans ?_)
      rw [tell_congr hx (fun _ => true) (fun g => g.asked) (fun _ _ => rfl) (fun _ _ => rfl) fun g hg => ?_]
      · exact S4
      · obtain ⟨q, hq, rfl⟩ := List.mem_map.mp (show g ∈ ps.map newG from hg)
        rfl
end
end Cw
end

section
set_option Elab.async false
set_option linter.all false
set_option maxRecDepth 100000
set_option maxHeartbeats 2000000
namespace Cw
open PySem PySem.Spec PyProof.Rows L2
section
variable {C : Cs} {H : Hp} {L : Lay} {s : Cl06.State}
theorem Rep.ckLen (R : Rep C H L s) : L.ck.length ≤ 30 := by
  have := nodup_lt 30 (L.ck.map fun k => k.1 + 5 * k.2) ?_ ?_
  · simpa using this
  · refine List.Pairwise.map _ ?_ (List.Pairwise.and_mem.mp R.knd)
    rintro ⟨p, m⟩ ⟨p', m'⟩ ⟨h1, h2, hn⟩ e
    obtain ⟨c, hc⟩ := Option.isSome_iff_exists.mp ((R.keys p m).mp h1)
    obtain ⟨c', hc'⟩ := Option.isSome_iff_exists.mp ((R.keys p' m').mp h2)
    have q1 := (R.good.cop p m c hc).1
    have q2 := (R.good.cop p' m' c' hc').1
    have e : p + 5 * m = p' + 5 * m' := e
    apply hn
    have : p = p' := by omega
    subst this
    have : m = m' := by omega
    rw [this]
  · intro a ha
    obtain ⟨⟨p, m⟩, hk, rfl⟩ := List.mem_map.mp ha
    obtain ⟨c, hc⟩ := Option.isSome_iff_exists.mp ((R.keys p m).mp hk)
    obtain ⟨q1, x, q2, _⟩ := R.good.cop p m c hc
    have := (List.getElem?_eq_some_iff.mp q2).1
    have := R.good.few
    show p + 5 * m < 30
    omega
theorem guest_some (G : Gd s) {i j n : Nat} {x : Cl06.Meeting} {g : Cl06.Guest} (hx : s.meetings[i]? = some x) (hg : x.guests[j]? = some g) (e : g.who = n) : Cl06.guest x n = some g := by
  unfold Cl06.guest
  cases h : x.guests.find? fun (y : Cl06.Guest) => y.who == n with
  | none =>
    have := List.find?_eq_none.mp h g (List.mem_of_getElem? hg)
    simp [e] at this
  | some g' =>
    have h1 := List.find?_some h
    have h2 := List.mem_of_find?_eq_some h
    obtain ⟨k, hk⟩ := List.mem_iff_getElem?.mp h2
    have h1 : g'.who = n := by simpa using h1
    have := G.one hx hg hk (e.trans h1.symm)
    subst this
    rw [hg] at hk
    cases hk
    rfl
theorem guest_none {n : Nat} {x : Cl06.Meeting} (h : ∀ g ∈ x.guests, g.who ≠ n) : Cl06.guest x n = none := by
  unfold Cl06.guest
  rw [List.find?_eq_none]
  intro g hg q
  exact h g hg (by simpa using q)
theorem guest_mem {n : Nat} {x : Cl06.Meeting} {g : Cl06.Guest} (h : Cl06.guest x n = some g) : g ∈ x.guests ∧ g.who = n := ⟨List.mem_of_find?_eq_some h, by have := List.find?_some h; simpa using this⟩
theorem map_who (G : Gd s) {i j : Nat} {x : Cl06.Meeting} {g : Cl06.Guest} (hx : s.meetings[i]? = some x) (hg : x.guests[j]? = some g) (f : Cl06.Guest → Cl06.Guest) : (x.guests.map fun (y : Cl06.Guest) => if y.who = g.who then f y else y) = x.guests.set j (f g) := by
  apply List.ext_getElem?
  intro k
  rw [List.getElem?_map, get_set hg]
  cases h : x.guests[k]? with
  | none =>
    rw [if_neg fun e => by rw [e, h] at hg; cases hg]
    rfl
  | some g' =>
    show some (if g'.who = g.who then f g' else g') = _
    by_cases e : g'.who = g.who
    · have := G.one hx hg h e.symm
      subst this
      rw [hg] at h
      cases h
      rw [if_pos rfl, if_pos rfl]
    · rw [if_neg e, if_neg]
      intro q
      subst q
      rw [hg] at h
      cases h
      exact e rfl
end
section
variable {P : Program} {w : World} {K : PySem.W.Frag} {mg : Str → Option Value} {base : Heap} {C : Cs} {A : Ad}
def sp_World_hand_over (C : Cs) : Sp := fun vs H Q _ => ∃ (L : Lay) (s : Cl06.State) (a : Addr) (l : Cl06.Letter), Rep C H L s ∧ vs = [.ref L.w, .ref a] ∧ LetAt C H a l ∧ LetOk s l ∧ ∀ H' L', Stp C H L s H' L' (Cl06.hand s l).1 → Q (vN (Cl06.hand s l).2) H'
def sp_World_hand_over_word (C : Cs) : Sp := fun vs H Q _ => ∃ (L : Lay) (s : Cl06.State) (a da : Addr) (l : Cl06.Letter), Rep C H L s ∧ vs = [.ref L.w, .ref a] ∧ H a = some (.ins C.w da (wf l)) ∧ l.kind = 0 ∧ LetOk s l ∧ ∀ H' L', Stp C H L s H' L' (Cl06.hand s l).1 → Q (vN (Cl06.hand s l).2) H'
def sp_World_hand_over_answer (C : Cs) : Sp := fun vs H Q _ => ∃ (L : Lay) (s : Cl06.State) (a da : Addr) (l : Cl06.Letter), Rep C H L s ∧ vs = [.ref L.w, .ref a] ∧ H a = some (.ins C.a da (af l)) ∧ l.kind = 1 ∧ LetOk s l ∧ ∀ H' L', Stp C H L s H' L' (Cl06.hand s l).1 → Q (vN (Cl06.hand s l).2) H'
theorem ok_World_hand_over_word (T : Txt K mg C) (U : Env K mg C A) : FnOk P w K mg base CX0 3 A.f_World_hand_over_word A.d_World_hand_over_word ["self", "word"] (sp_World_hand_over_word C) := by
  refine U.F_World_hand_over_word.ok sc_World_hand_over_word (fun vs H Q E h => ?_) (fun cdv A' outer s H vs Q E hr h => ?_)
  · obtain ⟨_, _, _, _, _, _, rfl, _⟩ := h
    rfl
  · obtain ⟨L, s', a, da, l, R, rfl, ha, hk, hl, k⟩ := h
    obtain ⟨dw, hw⟩ := R.world
    refine ⟨_, (pss_cons (ps_set (i := 2) sc_World_hand_over_word.nd rfl (Or.inl rfl) (pe_meth (pv 0) T.cl_o U.m_World_copy_of (ok_World_copy_of T U) (hr.mono (by decide)) U.b_World_copy_of .nil pass0 (pa_cons (pe_fld (pv 1) rfl) (pa_cons (pe_fld (pv 1) rfl) pa_nil)))) (pss_cons (ps_if (pt_cmpR op_isN (pv 2) pe_non (nomark _)) (pss_cons (ps_dput (hu_of hr) (pe_fld (pv 0) rfl) (pe_tup (pa_cons (pe_fld (pv 1) rfl) (pa_cons (pe_fld (pv 1) rfl) pa_nil))) (pe_make U.M_c (ok_Copy_init T U) hr rfl T.mg_c U.b_Copy_init .nil pass0 (pa_cons (pv 1) pa_nil)) rfl) (pss_one (ps_ret (pe_ci rfl T.k_COPY_TOLD)))) pss_nil) (pss_cons (ps_if (pt_cmpR op_le (pe_fld (pv 1) rfl) (pe_fld (pe_fld (pv 2) rfl) rfl) (nomark _)) (pss_one (ps_ret (pe_ci rfl T.k_NO_USE))) pss_nil) (pss_cons (ps_expr (pe_meth (pv 2) T.cl_c U.m_Copy_hear (ok_Copy_hear T U) (hr.mono (by decide)) U.b_Copy_hear .nil pass0 (pa_cons (pv 1) pa_nil))) (pss_one (ps_ret (pe_ci rfl T.k_COPY_TOLD))))))), ?_⟩
    refine ⟨_, rfl, _, dw, _, rfl, hw, rfl, _, rfl, rd_fld ha T.cl_w T.n_w_guest rfl ⟨_, rfl, rd_fld ha T.cl_w T.n_w_meeting rfl ⟨L, s', l.to_, l.meeting, R, rfl, fun H1 sm => ⟨fun c hc => ?_, fun hn => ?_⟩⟩⟩⟩
    · have S0 := R.laid sm
      have R1 := S0.rep
      have ha1 := sm _ _ ha
      obtain ⟨dc, hc1⟩ := R1.copy hc
      obtain ⟨hh, dv, hv⟩ := R1.wrd _ _ _ hc
      refine ⟨_, rfl, rfl, _, rfl, ?_⟩
      refine iteF ?_
      refine ⟨_, rfl, rd_fld ha1 T.cl_w T.n_w_number rfl ⟨_, rfl, rd_fld hc1 T.cl_c T.n_c_word rfl (rd_fld hv T.cl_w T.n_w_number rfl ⟨_, _, rfl, rfl, _, rfl, ?_⟩)⟩⟩
      by_cases e : l.num ≤ c.word
      · have eh : Cl06.hand s' l = (s', 0) := by
          unfold Cl06.hand
          rw [if_pos hk, hc]
          dsimp only
          rw [if_pos e]
        rw [eh] at k
        rw [show decide ((l.num : Int) ≤ ((wordOf l.to_ l.meeting hh c).num : Int)) = true from decide_eq_true (by show (l.num : Int) ≤ (c.word : Int); omega)]
        exact iteT (k H1 L S0)
      · rw [show decide ((l.num : Int) ≤ ((wordOf l.to_ l.meeting hh c).num : Int)) = false from decide_eq_false (by show ¬ (l.num : Int) ≤ (c.word : Int); omega)]
        refine iteF ?_
        refine ⟨_, rfl, _, dc, _, rfl, hc1, rfl, _, rfl, _, dc, _, dv, a, da, c, _, l, rfl, hc1, hv, ha1, ?_⟩
        have eh : Cl06.hand s' l = (Cl06.setCopy s' l.to_ l.meeting ⟨l.num, l.round, l.time, l.off, l.asked, c.count, if (c.round == l.round) = true then c.answer else 0, if (c.round == l.round) = true then c.wish else none⟩, 1) := by
          unfold Cl06.hand
          rw [if_pos hk, hc]
          dsimp only
          rw [if_neg e]
        rw [eh] at k
        refine k _ _ (S0.trans (Stp.copy (wa := a) (dw := da) (hh := l.from_) T.apart R1 hc (fun z => ?_) ha1 (fun b o eo nb => up eo nb) ⟨dc, ?_⟩))
        · show (if (c.round == l.round) = true then c.answer else 0) = 0
          by_cases q : (c.round == l.round) = true
          · rw [if_pos q]; exact R.good.cnt _ _ c hc z
          · rw [if_neg q]
        · rw [upd_same]
          show some (HO.ins C.c dc (cf a { c with answer := if l.round = c.round then c.answer else 0, wish := if l.round = c.round then c.wish else none })) = _
          by_cases q : l.round = c.round
          · have q1 : (c.round == l.round) = true := by rw [q]; simp
            rw [if_pos q, if_pos q, if_pos q1, if_pos q1]
            rfl
          · have q1 : ¬ (c.round == l.round) = true := by simp; exact fun z => q z.symm
            rw [if_neg q, if_neg q, if_neg q1, if_neg q1]
            rfl
    · have S0 := R.laid sm
      have R1 := S0.rep
      have ha1 := sm _ _ ha
      have hw1 := sm _ _ hw
      refine ⟨_, rfl, rfl, _, rfl, ?_⟩
      refine iteT ?_
      refine ⟨_, rfl, fun y dy hy hdy ny => ⟨y, dy, a, rfl, upd_same, rfl, ?_⟩⟩
      rw [upd_upd]
      have s2 : Same H1 (upd (upd H1 dy (.own y)) y (.ins C.c dy (cf a ⟨0, 0, 0, false, false, 0, 0, none⟩))) := fun b o e => up (up e (ne_of_none e hdy)) (ne_of_none e hy)
      obtain ⟨H2, eH2⟩ : ∃ H2, H2 = upd (upd H1 dy (.own y)) y (.ins C.c dy (cf a ⟨0, 0, 0, false, false, 0, 0, none⟩)) := ⟨_, rfl⟩
      have hy2 : H2 y = some (.ins C.c dy (cf a ⟨0, 0, 0, false, false, 0, 0, none⟩)) := by rw [eH2]; exact upd_same
      rw [← eH2] at s2 ⊢
      refine ⟨_, rfl, rd_fld (s2 _ _ hw1) T.cl_o T.n_o_copies rfl ⟨_, rfl, rd_fld (s2 _ _ ha1) T.cl_w T.n_w_guest rfl ⟨_, rfl, rd_fld (s2 _ _ ha1) T.cl_w T.n_w_meeting rfl ⟨(show 2 ≤ sizeLine by decide), fun t ht => ?_⟩⟩⟩⟩
      have hdc3 : upd H2 t (.tup [vN l.to_, vN l.meeting]) L.dc = some (.dT (copiesV L)) := up (s2 _ _ R1.dc) (ne_of_none (s2 _ _ R1.dc) ht)
      refine ⟨L.dc, _, rfl, DPut.t (k := keyOf l.to_ l.meeting) hdc3 upd_same ?_, ?_⟩
      · have := R.ckLen
        unfold copiesV
        rw [List.length_map]
        exact Nat.lt_of_le_of_lt this (by decide)
      · have eh : Cl06.hand s' l = (Cl06.setCopy s' l.to_ l.meeting ⟨l.num, l.round, l.time, l.off, l.asked, 0, 0, none⟩, 1) := by
          unfold Cl06.hand
          rw [if_pos hk, hn]
        rw [eh] at k
        rw [putK_new R1 hn]
        obtain ⟨hl1, hl2⟩ := hl
        have hx : s'.meetings[l.meeting]? = some s'.meetings[l.meeting] := List.getElem?_eq_getElem hl1
        have nyt : y ≠ t := ne_of_none hy2 ht
        have nyd : y ≠ L.dc := fun e => by rw [e, R1.dc] at hy; cases hy
        refine k _ _ (S0.trans (Stp.newCopy (a := y) (wa := a) (dw := da) (hh := l.from_) T.apart R1 hn (fun _ => rfl) ⟨(hl2 hk).1, _, hx, (hl2 hk).2 _ hx⟩ hy ha1 (fun b o e nb => ?_) upd_same ⟨dy, ?_⟩))
        · exact up (up (s2 b o e) (ne_of_none (s2 b o e) ht)) nb
        · exact up (up hy2 nyt) nyd
theorem ok_World_hand_over_answer (T : Txt K mg C) (U : Env K mg C A) : FnOk P w K mg base CX0 3 A.f_World_hand_over_answer A.d_World_hand_over_answer ["self", "letter"] (sp_World_hand_over_answer C) := by
  refine U.F_World_hand_over_answer.ok sc_World_hand_over_answer (fun vs H Q E h => ?_) (fun cdv A' outer s H vs Q E hr h => ?_)
  · obtain ⟨_, _, _, _, _, _, rfl, _⟩ := h
    rfl
  · obtain ⟨L, s', a, da, l, R, rfl, ha, hk, ⟨hl, _⟩, k⟩ := h
    obtain ⟨dw, hw⟩ := R.world
    obtain ⟨x, hx⟩ : ∃ x, s'.meetings[l.meeting]? = some x := ⟨_, List.getElem?_eq_getElem hl⟩
    obtain ⟨dm, hm⟩ := R.meet hx
    have em : Cl06.meeting s' l.meeting = x := by
      unfold Cl06.meeting
      rw [List.getD_eq_getElem?_getD, hx]
      rfl
    have hk0 : ¬ l.kind = 0 := by rw [hk]; decide
    have e0 : ∀ g, Cl06.guest x l.from_ = some g → (g.asked = false ∨ (x.off = true ∨ (l.round ≠ x.round ∨ l.num ≤ g.count))) → Cl06.hand s' l = (s', 0) := fun g hg hc => by
      unfold Cl06.hand
      rw [if_neg hk0]
      dsimp only
      rw [em, hg]
      dsimp only
      rw [if_pos hc]
    refine ⟨_, (pss_cons (ps_set (i := 2) sc_World_hand_over_answer.nd rfl (Or.inl rfl) (pe_ix ix_list (pe_fld (pv 0) rfl) (pe_fld (pv 1) rfl) (fun _ _ => rfl))) (pss_cons (ps_set (i := 3) sc_World_hand_over_answer.nd rfl (Or.inl rfl) (pe_meth (pv 2) T.cl_m U.m_Meeting_asked_guest_of (ok_Meeting_asked_guest_of T U) hr U.b_Meeting_asked_guest_of .nil pass0 (pa_cons (pe_fld (pv 1) rfl) pa_nil))) (pss_cons (ps_if (PW.pt (pw_or (pt_cmpR op_isN (pv 3) pe_non (nomark _)) (pw_or1 (pt_cmpR op_eq (pe_fld (pv 2) rfl) pe_int (nomark _))))) (pss_one (ps_ret (pe_ci rfl T.k_NO_USE))) pss_nil) (pss_cons (ps_if (PW.pt (pw_or (pt_cmpR op_ne (pe_fld (pv 1) rfl) (pe_fld (pv 2) rfl) (nomark _)) (pw_or1 (pt_cmpR op_le (pe_fld (pv 1) rfl) (pe_fld (pv 3) rfl) (nomark _))))) (pss_one (ps_ret (pe_ci rfl T.k_NO_USE))) pss_nil) (pss_cons (ps_fld (pv 3) (pe_fld (pv 1) rfl) rfl) (pss_cons (ps_fld (pv 3) (pe_fld (pv 1) rfl) rfl) (pss_cons (ps_fld (pv 3) (pe_fld (pv 1) rfl) rfl) (pss_one (ps_ret (pe_ci rfl T.k_ANSWER_COUNTS)))))))))), ?_⟩
    refine ⟨_, rfl, rd_fld hw T.cl_o T.n_o_meetings rfl ⟨_, rfl, rd_fld ha T.cl_a T.n_a_meeting rfl ⟨_, _, _, _, rfl, rfl, SqL.of R.lm, atI_nat (meetsV_at hl), ?_⟩⟩⟩
    refine ⟨_, rfl, _, dm, _, rfl, hm, rfl, _, rfl, rd_fld ha T.cl_a T.n_a_guest rfl ⟨L, s', l.meeting, l.from_, x, R, hx, rfl, fun j g hg ew ea => ?_, fun hn => ?_⟩⟩
    · have gs := guest_some R.good hx hg ew
      obtain ⟨dg, hga⟩ := R.guest hx hg
      refine ⟨_, rfl, rfl, _, rfl, ?_⟩
      refine iteF ?_
      refine ⟨_, rfl, rd_fld hm T.cl_m T.n_m_off rfl ⟨rfl, _, rfl, ?_⟩⟩
      rw [bit_one]
      cases eo : x.off with
      | true =>
        rw [e0 g gs (.inr (.inl eo))] at k
        exact iteT (k H L (Stp.refl R))
      | false =>
        refine iteF ?_
        refine ⟨_, rfl, rd_fld ha T.cl_a T.n_a_round_no rfl ⟨_, rfl, rd_fld hm T.cl_m T.n_m_round_no rfl ⟨rfl, _, rfl, ?_⟩⟩⟩
        by_cases er : l.round = x.round
        · rw [show (!decide (V.int (l.round : Int) = V.int (x.round : Int))) = false by rw [er]; simp]
          refine iteF ?_
          refine ⟨_, rfl, rd_fld ha T.cl_a T.n_a_number rfl ⟨_, rfl, rd_fld hga T.cl_g T.n_g_counted rfl ⟨_, _, rfl, rfl, _, rfl, ?_⟩⟩⟩
          by_cases ec : l.num ≤ g.count
          · rw [show decide ((l.num : Int) ≤ (g.count : Int)) = true from decide_eq_true (by omega)]
            rw [e0 g gs (.inr (.inr (.inr ec)))] at k
            exact iteT (k H L (Stp.refl R))
          · rw [show decide ((l.num : Int) ≤ (g.count : Int)) = false from decide_eq_false (by omega)]
            refine iteF ?_
            have nag : a ≠ L.ga l.meeting j := fun e => by
              rw [e, hga] at ha
              injection ha with ha
              injection ha with ha
              exact T.apart.ga ha
            refine ⟨_, rfl, rd_fld ha T.cl_a T.n_a_number rfl ⟨_, rfl, st_fld hga T.cl_g T.n_g_counted (show 6 < 1000 by decide) ?_⟩⟩
            refine ⟨_, rfl, rd_fld (up ha nag) T.cl_a T.n_a_what rfl ⟨_, rfl, st_fld upd_same T.cl_g T.n_g_answer (show 6 < 1000 by decide) ?_⟩⟩
            rw [upd_upd]
            refine ⟨_, rfl, rd_fld (up ha nag) T.cl_a T.n_a_wish rfl ⟨_, rfl, st_fld upd_same T.cl_g T.n_g_wish (show 6 < 1000 by decide) ?_⟩⟩
            rw [upd_upd]
            have eh : Cl06.hand s' l = (Cl06.setMeeting s' l.meeting { x with guests := x.guests.set j { g with count := l.num, answer := l.answer, wish := l.wish } }, 2) := by
              unfold Cl06.hand
              rw [if_neg hk0]
              dsimp only
              rw [em, gs]
              dsimp only
              rw [if_neg (by rintro (q | q | q | q); · rw [ea] at q; cases q
                             · rw [eo] at q; cases q
                             · exact q er
                             · exact ec q)]
              rw [map_who R.good hx hg fun y => { y with count := l.num, answer := l.answer, wish := l.wish }]
            rw [eh] at k
            exact k _ L (Stp.guest (g' := { g with count := l.num, answer := l.answer, wish := l.wish }) T.apart R hx hg rfl (fun b o e n => up e n) ⟨dg, upd_same⟩)
        · rw [show (!decide (V.int (l.round : Int) = V.int (x.round : Int))) = true by rw [Bool.not_eq_true', decide_eq_false_iff_not]; intro q; injection q with q; omega]
          rw [e0 g gs (.inr (.inr (.inl er)))] at k
          refine iteT ?_
          exact iteT (k H L (Stp.refl R))
    · have eh : Cl06.hand s' l = (s', 0) := by
        cases hg : Cl06.guest x l.from_ with
        | none =>
          unfold Cl06.hand
          rw [if_neg hk0]
          dsimp only
          rw [em, hg]
        | some g =>
          obtain ⟨q1, q2⟩ := guest_mem hg
          exact e0 g hg (.inl (hn g q1 q2))
      rw [eh] at k
      refine ⟨_, rfl, rfl, _, rfl, ?_⟩
      refine iteT ?_
      exact iteT (k H L (Stp.refl R))
theorem ok_World_hand_over (T : Txt K mg C) (U : Env K mg C A) : FnOk P w K mg base CX0 4 A.f_World_hand_over A.d_World_hand_over ["self", "letter"] (sp_World_hand_over C) := by
  refine U.F_World_hand_over.ok sc_World_hand_over (fun vs H Q E h => ?_) (fun cdv A' outer s H vs Q E hr h => ?_)
  · obtain ⟨_, _, _, _, _, rfl, _⟩ := h
    rfl
  · obtain ⟨L, s', a, l, R, rfl, ha, hl, k⟩ := h
    obtain ⟨dw, hw⟩ := R.world
    refine ⟨_, (pss_cons (ps_if (pt_val (pe_callB call_isi rfl T.b_isinstance (by decide +kernel) (pa_cons (pv 1) (pa_cons (pe_glob (v := .ref C.w) rfl T.mg_w rfl) pa_nil)))) (pss_one (ps_ret (pe_meth (pv 0) T.cl_o U.m_World_hand_over_word (ok_World_hand_over_word T U) hr U.b_World_hand_over_word .nil pass0 (pa_cons (pv 1) pa_nil)))) pss_nil) (pss_one (ps_ret (pe_meth (pv 0) T.cl_o U.m_World_hand_over_answer (ok_World_hand_over_answer T U) hr U.b_World_hand_over_answer .nil pass0 (pa_cons (pv 1) pa_nil))))), ?_⟩
    rcases ha with ⟨hk, da, ha⟩ | ⟨hk, da, ha⟩
    · refine ⟨_, rfl, _, C.w, .ref C.w, true, rfl, .ins ha T.cl_w T.ic_w T.ig T.it T.im_w, T.is_ww, _, rfl, ?_⟩
      refine iteT ?_
      exact ⟨_, rfl, _, dw, _, rfl, hw, rfl, _, rfl, L, s', a, da, l, R, rfl, ha, hk, hl, k⟩
    · refine ⟨_, rfl, _, C.w, .ref C.a, false, rfl, .ins ha T.cl_a T.ic_a T.ig T.it T.im_a, T.is_aw, _, rfl, ?_⟩
      refine iteF ?_
      exact ⟨_, rfl, _, dw, _, rfl, hw, rfl, _, rfl, L, s', a, da, l, R, rfl, ha, hk, hl, k⟩
end
end Cw
end

section
set_option Elab.async false
set_option linter.all false
set_option maxRecDepth 100000
set_option maxHeartbeats 2000000
namespace Cw
open PySem PySem.Spec PyProof.Rows L2
section
variable {K : PySem.W.Frag} {C : Cs} {H H1 : Hp} {L L1 : Lay} {s s1 : Cl06.State}
theorem rd_ix {Q : V → Prop} {p : Addr} {xs : List V} {v : V} (j : Nat) (h : H p = some (.lst xs)) (e : xs[j]? = some v) (q : Q v) :
    ∃ p' xs' i' v', V.ref p = .ref p' ∧ V.int (j : Int) = .int i' ∧ SqL K H p' xs' ∧ atI xs' i' = some v' ∧ Q v' := ⟨p, xs, (j : Int), v, rfl, rfl, SqL.of h, atI_nat e, q⟩
/-- what every call promises -/
def sp_call (C : Cs) (D : List Nat → Cl06.Call → Prop) : Sp := fun vs H Q _ => ∃ (L : Lay) (s : Cl06.State) (nl : Addr) (ns : List Nat) (c : Cl06.Call), Rep C H L s ∧ vs = [.ref L.w, .ref nl] ∧ H nl = some (.lst (ns.map vN)) ∧ ¬ Foot C L s nl ∧ D ns c ∧
  ∀ H' L' q, Stp C H L s H' L' (Cl06.step s c).1 → H' q = some (.lst ((Cl06.step s c).2.map V.int)) → (∀ b o, H b = some o → ¬ Foot C L s b → b ≠ q) → Q (.ref q) H'
theorem fin {c : Cl06.Call} {q : Addr} {Q : VK} (k : ∀ H' L' q, Stp C H L s H' L' (Cl06.step s c).1 → H' q = some (.lst ((Cl06.step s c).2.map V.int)) → (∀ b o, H b = some o → ¬ Foot C L s b → b ≠ q) → Q (.ref q) H')
    (S : Stp C H L s H1 L1 s1) (hq : H1 q = none) (ans : Cl06.Ans) (e : Cl06.step s c = (s1, ans)) : Q (.ref q) (upd H1 q (.lst (ans.map V.int))) := by
  rw [e] at k
  exact k _ L1 q (S.trans (S.rep.laid (Same.upd' hq))) upd_same fun b o eb nb => ne_of_none (S.keep b o eb nb) hq
theorem known_none {m : Nat} {f : Cl06.Meeting → Cl06.State × Cl06.Ans} (h : s.meetings[m]? = none) : Cl06.known s m f = (s, [-3]) := by
  unfold Cl06.known
  rw [h]
theorem known_some {m : Nat} {x : Cl06.Meeting} {f : Cl06.Meeting → Cl06.State × Cl06.Ans} (h : s.meetings[m]? = some x) : Cl06.known s m f = f x := by
  unfold Cl06.known
  rw [h]
theorem on_none {m : Nat} {f : Cl06.Meeting → Cl06.State × Cl06.Ans} (h : s.meetings[m]? = none) : Cl06.on s m f = (s, [-3]) := known_none h
theorem on_off {m : Nat} {x : Cl06.Meeting} {f : Cl06.Meeting → Cl06.State × Cl06.Ans} (h : s.meetings[m]? = some x) (ho : x.off = true) : Cl06.on s m f = (s, [-2]) := by
  unfold Cl06.on
  rw [known_some h, if_pos ho]
theorem on_some {m : Nat} {x : Cl06.Meeting} {f : Cl06.Meeting → Cl06.State × Cl06.Ans} (h : s.meetings[m]? = some x) (ho : x.off = false) : Cl06.on s m f = f x := by
  unfold Cl06.on
  rw [known_some h, if_neg (by rw [ho]; decide)]
theorem tell_at {m : Nat} {x : Cl06.Meeting} (p : Cl06.Guest → Bool) (h : s.meetings[m]? = some x) : ∃ y, (Cl06.tell s m p).meetings[m]? = some y ∧ y.round = x.round ∧ y.time = x.time := by
  have em : Cl06.meeting s m = x := by
    unfold Cl06.meeting
    rw [List.getD_eq_getElem?_getD, h]
    rfl
  refine ⟨{ x with guests := x.guests.map fun (g : Cl06.Guest) => if p g = true then { g with words := g.words + 1 } else g }, ?_, rfl, rfl⟩
  unfold Cl06.tell
  rw [em]
  exact (get_set h).trans (if_pos rfl)
theorem moved_at {m t : Nat} {x : Cl06.Meeting} (h : s.meetings[m]? = some x) : ∃ y, (Cl06.moved s m t).meetings[m]? = some y ∧ y.round = x.round + 1 ∧ y.time = t := by
  have em : Cl06.meeting s m = x := by
    unfold Cl06.meeting
    rw [List.getD_eq_getElem?_getD, h]
    rfl
  unfold Cl06.moved
  rw [em]
  have hx' : (Cl06.setMeeting s m { x with round := x.round + 1, time := t, guests := x.guests.map fun (g : Cl06.Guest) => { g with answer := 0, wish := none } }).meetings[m]? = some { x with round := x.round + 1, time := t, guests := x.guests.map fun (g : Cl06.Guest) => { g with answer := 0, wish := none } } := (get_set h).trans (if_pos rfl)
  exact tell_at _ hx'
theorem lt_some {m : Nat} {x : Cl06.Meeting} (h : s.meetings[m]? = some x) : m < s.meetings.length := (List.getElem?_eq_some_iff.mp h).1
end
section
variable {P : Program} {w : World} {K : PySem.W.Frag} {mg : Str → Option Value} {base : Heap} {C : Cs} {A : Ad}
def sp_is_meeting (C : Cs) : Sp := fun vs H Q _ => ∃ (L : Lay) (s : Cl06.State) (m : Nat), Rep C H L s ∧ vs = [.ref L.w, vN m] ∧ Q (.bl (s.meetings[m]?).isSome) H
theorem ok_is_meeting (T : Txt K mg C) (U : Env K mg C A) : FnOk P w K mg base CX0 1 A.f_is_meeting A.d_is_meeting ["world", "number"] (sp_is_meeting C) := by
  refine U.F_is_meeting.ok sc_is_meeting (fun vs H Q E h => ?_) (fun cdv A' outer s H vs Q E hr h => ?_)
  · obtain ⟨_, _, _, _, rfl, _⟩ := h
    rfl
  · obtain ⟨L, s', m, R, rfl, k⟩ := h
    obtain ⟨dw, hw⟩ := R.world
    refine ⟨_, (pss_one (ps_ret (pe_cmpR op_lt (pv 1) (pe_callB call_len_seq rfl T.b_len PySem.boot_len (pa_cons (pe_fld (pv 0) rfl) pa_nil)) (nomark _)))), ?_⟩
    refine ⟨_, rfl, _, rfl, rd_fld hw T.cl_o T.n_o_meetings rfl ⟨_, _, rfl, .inl (SqL.of R.lm), _, _, rfl, rfl, ?_⟩⟩
    rw [meetsV_len]
    show Q (V.bl (decide ((m : Int) < (s'.meetings.length : Int)))) H
    have : decide ((m : Int) < (s'.meetings.length : Int)) = (s'.meetings[m]?).isSome := by
      by_cases e : m < s'.meetings.length
      · rw [List.getElem?_eq_getElem e, decide_eq_true (by omega)]
        rfl
      · rw [List.getElem?_eq_none (by omega), decide_eq_false (by omega)]
        rfl
    rw [this]
    exact k
def sp_Copy_invites (C : Cs) : Sp := fun vs H Q _ => ∃ (ca dc wa dw : Addr) (c : Cl06.Copy) (l : Cl06.Letter), vs = [.ref ca] ∧ H ca = some (.ins C.c dc (cf wa c)) ∧ H wa = some (.ins C.w dw (wf l)) ∧ Q (.bl (!l.off && l.asked)) H
theorem ok_Copy_invites (T : Txt K mg C) (U : Env K mg C A) : FnOk P w K mg base CX0 1 A.f_Copy_invites A.d_Copy_invites ["self"] (sp_Copy_invites C) := by
  refine U.F_Copy_invites.ok sc_Copy_invites (fun vs H Q E h => ?_) (fun cdv A' outer s H vs Q E hr h => ?_)
  · obtain ⟨_, _, _, _, _, _, rfl, _⟩ := h
    rfl
  · obtain ⟨ca, dc, wa, dw, c, l, rfl, hc, hw, k⟩ := h
    refine ⟨_, (pss_one (ps_ret (pe_and (pe_cmpR op_eq (pe_fld (pe_fld (pv 0) rfl) rfl) pe_int (nomark _)) (pe_one (pe_cmpR op_eq (pe_fld (pe_fld (pv 0) rfl) rfl) pe_int (nomark _)))))), ?_⟩
    refine ⟨_, rfl, rd_fld hc T.cl_c T.n_c_word rfl (rd_fld hw T.cl_w T.n_w_off rfl ⟨rfl, _, rfl, ?_⟩)⟩
    rw [show decide (vB l.off = V.int 0) = !l.off from bit_zero]
    cases eo : l.off with
    | true =>
      refine iteF ?_
      rw [eo] at k
      exact k
    | false =>
      refine iteT ?_
      refine ⟨_, rfl, rd_fld hc T.cl_c T.n_c_word rfl (rd_fld hw T.cl_w T.n_w_asked rfl ⟨rfl, ?_⟩)⟩
      rw [show decide (vB l.asked = V.int 1) = l.asked from bit_one]
      rw [eo] at k
      exact k
def sp_is_letter (C : Cs) : Sp := fun vs H Q _ => ∃ (L : Lay) (s : Cl06.State) (m : Nat), Rep C H L s ∧ vs = [.ref L.w, vN m] ∧ Q (.bl (s.letters[m]?).isSome) H
theorem ok_is_letter (T : Txt K mg C) (U : Env K mg C A) : FnOk P w K mg base CX0 1 A.f_is_letter A.d_is_letter ["world", "number"] (sp_is_letter C) := by
  refine U.F_is_letter.ok sc_is_letter (fun vs H Q E h => ?_) (fun cdv A' outer s H vs Q E hr h => ?_)
  · obtain ⟨_, _, _, _, rfl, _⟩ := h
    rfl
  · obtain ⟨L, s', m, R, rfl, k⟩ := h
    obtain ⟨dw, hw⟩ := R.world
    refine ⟨_, (pss_one (ps_ret (pe_cmpR op_lt (pv 1) (pe_callB call_len_seq rfl T.b_len PySem.boot_len (pa_cons (pe_fld (pv 0) rfl) pa_nil)) (nomark _)))), ?_⟩
    refine ⟨_, rfl, _, rfl, rd_fld hw T.cl_o T.n_o_letters rfl ⟨_, _, rfl, .inl (SqL.of R.ll), _, _, rfl, rfl, ?_⟩⟩
    rw [List.length_map, R.llen]
    show Q (V.bl (decide ((m : Int) < (s'.letters.length : Int)))) H
    have : decide ((m : Int) < (s'.letters.length : Int)) = (s'.letters[m]?).isSome := by
      by_cases e : m < s'.letters.length
      · rw [List.getElem?_eq_getElem e, decide_eq_true (by omega)]
        rfl
      · rw [List.getElem?_eq_none (by omega), decide_eq_false (by omega)]
        rfl
    rw [this]
    exact k
def sp_refusal_to_change (C : Cs) : Sp := fun vs H Q _ => ∃ (L : Lay) (s : Cl06.State) (m : Nat), Rep C H L s ∧ vs = [.ref L.w, vN m] ∧ (s.meetings[m]? = none → Q (.int (-3)) H) ∧ (∀ x, s.meetings[m]? = some x → x.off = true → Q (.int (-2)) H) ∧ (∀ x, s.meetings[m]? = some x → x.off = false → Q (.int 0) H)
theorem ok_refusal_to_change (T : Txt K mg C) (U : Env K mg C A) : FnOk P w K mg base CX0 2 A.f_refusal_to_change A.d_refusal_to_change ["world", "number"] (sp_refusal_to_change C) := by
  refine U.F_refusal_to_change.ok sc_refusal_to_change (fun vs H Q E h => ?_) (fun cdv A' outer s H vs Q E hr h => ?_)
  · obtain ⟨_, _, _, _, rfl, _⟩ := h
    rfl
  · obtain ⟨L, s', m, R, rfl, k1, k2, k3⟩ := h
    obtain ⟨dw, hw⟩ := R.world
    refine ⟨_, (pss_cons (ps_if (pt_not (pt_val (pe_call (ok_is_meeting T U) hr rfl U.g_is_meeting U.F_is_meeting.kp U.b_is_meeting .nil pass0 (pa_cons (pv 0) (pa_cons (pv 1) pa_nil))))) (pss_one (ps_ret (pe_ci rfl T.k_NOT_THERE))) pss_nil) (pss_cons (ps_if (pt_cmpR op_eq (pe_fld (pe_ix ix_list (pe_fld (pv 0) rfl) (pv 1) (fun _ _ => rfl)) rfl) pe_int (nomark _)) (pss_one (ps_ret (pe_ci rfl T.k_OVER))) pss_nil) (pss_one (ps_ret pe_int)))), ?_⟩
    refine ⟨_, rfl, _, rfl, L, s', m, R, rfl, _, rfl, ?_⟩
    cases hx : s'.meetings[m]? with
    | none => exact iteT (k1 hx)
    | some x =>
      refine iteF ?_
      obtain ⟨dm, hm⟩ := R.meet hx
      refine ⟨_, rfl, rd_fld hw T.cl_o T.n_o_meetings rfl ⟨_, rfl, rd_ix m R.lm (meetsV_at (lt_some hx)) (rd_fld hm T.cl_m T.n_m_off rfl ⟨rfl, _, rfl, ?_⟩)⟩⟩
      rw [bit_one]
      cases ho : x.off with
      | true => exact iteT (k2 x hx ho)
      | false => exact iteF (k3 x hx ho)
theorem ok_move_meeting (T : Txt K mg C) (U : Env K mg C A) : FnOk P w K mg base CX0 6 A.f_move_meeting A.d_move_meeting ["world", "numbers"] (sp_call C D1) := by
  refine U.F_move_meeting.ok sc_move_meeting (fun vs H Q E h => ?_) (fun cdv A' outer s H vs Q E hr h => ?_)
  · obtain ⟨_, _, _, _, _, _, rfl, _⟩ := h
    rfl
  · obtain ⟨L, s', nl, ns, c, R, rfl, hnl, nf, ⟨m, t, rfl, rfl⟩, k⟩ := h
    obtain ⟨dw, hw⟩ := R.world
    refine ⟨_, (pss_cons (ps_set (i := 2) sc_move_meeting.nd rfl (Or.inl rfl) (pe_call (ok_refusal_to_change T U) (hr.mono (by decide)) rfl U.g_refusal_to_change U.F_refusal_to_change.kp U.b_refusal_to_change .nil pass0 (pa_cons (pv 0) (pa_cons (pe_ix ix_list (pv 1) pe_int (fun _ _ => rfl)) pa_nil)))) (pss_cons (ps_if (pt_cmpR op_lt (pv 2) pe_int (nomark _)) (pss_one (ps_ret (pe_lst (pa_cons (pv 2) pa_nil)))) pss_nil) (pss_cons (ps_set (i := 3) sc_move_meeting.nd rfl (Or.inl rfl) (pe_ix ix_list (pv 1) pe_int (fun _ _ => rfl))) (pss_cons (ps_if (pt_cmpR op_gt (pv 3) (pe_ci rfl T.k_LAST_TIME) (nomark _)) (pss_one (ps_ret (pe_lst (pa_cons (pe_ci rfl T.k_WRONG) pa_nil)))) pss_nil) (pss_cons (ps_set (i := 4) sc_move_meeting.nd rfl (Or.inl rfl) (pe_ix ix_list (pe_fld (pv 0) rfl) (pe_ix ix_list (pv 1) pe_int (fun _ _ => rfl)) (fun _ _ => rfl))) (pss_cons (ps_expr (pe_meth (pv 0) T.cl_o U.m_World_move (ok_World_move T U) hr U.b_World_move .nil pass0 (pa_cons (pv 4) (pa_cons (pv 3) pa_nil)))) (pss_one (ps_ret (pe_lst (pa_cons (pe_fld (pv 4) rfl) pa_nil)))))))))), ?_⟩
    refine ⟨_, rfl, _, rfl, rd_ix 0 hnl rfl ⟨L, s', m, R, rfl, fun hx => ?_, fun x hx ho => ?_, fun x hx ho => ?_⟩⟩
    · refine ⟨_, rfl, _, _, rfl, rfl, _, rfl, ?_⟩
      refine iteT ?_
      exact ⟨_, rfl, (show 1 ≤ sizeLine by decide), fun q hq => fin k (Stp.refl R) hq [-3] (on_none hx)⟩
    · refine ⟨_, rfl, _, _, rfl, rfl, _, rfl, ?_⟩
      refine iteT ?_
      exact ⟨_, rfl, (show 1 ≤ sizeLine by decide), fun q hq => fin k (Stp.refl R) hq [-2] (on_off hx ho)⟩
    · refine ⟨_, rfl, _, _, rfl, rfl, _, rfl, ?_⟩
      refine iteF ?_
      refine ⟨_, rfl, rd_ix 1 hnl rfl ?_⟩
      refine ⟨_, rfl, _, _, rfl, rfl, _, rfl, ?_⟩
      have st : Cl06.step s' (.move m t) = if Cl06.TIME < t then (s', [-1]) else (Cl06.moved s' m t, [((x.round + 1 : Nat) : Int)]) := on_some hx ho
      by_cases e : 100000 < t
      · rw [show decide ((100000 : Int) < (t : Int)) = true from decide_eq_true (by omega)]
        refine iteT ?_
        exact ⟨(show 1 ≤ sizeLine by decide), fun q hq => fin k (Stp.refl R) hq [-1] (st.trans (if_pos e))⟩
      · rw [show decide ((100000 : Int) < (t : Int)) = false from decide_eq_false (by omega)]
        refine iteF ?_
        refine ⟨_, rfl, rd_fld hw T.cl_o T.n_o_meetings rfl ⟨_, rfl, rd_ix 0 hnl rfl (rd_ix m R.lm (meetsV_at (lt_some hx)) ?_)⟩⟩
        refine ⟨_, rfl, _, dw, _, rfl, hw, rfl, _, rfl, _, rfl, L, s', m, t, x, R, hx, rfl, fun H1 la S => ?_⟩
        obtain ⟨y, hy, e1, _⟩ := moved_at (t := t) hx
        obtain ⟨dm, hm⟩ := S.rep.meet hy
        refine ⟨_, rfl, rd_fld hm T.cl_m T.n_m_round_no rfl ⟨(show 1 ≤ sizeLine by decide), fun q hq => ?_⟩⟩
        exact fin k S hq [((y.round : Nat) : Int)] (by rw [e1]; exact st.trans (if_neg e))
end
end Cw
end

section
set_option Elab.async false
set_option linter.all false
set_option maxRecDepth 100000
set_option maxHeartbeats 2000000
namespace Cw
open PySem PySem.Spec PyProof.Rows L2
section
variable {C : Cs} {H : Hp} {L : Lay} {s : Cl06.State}
theorem only {l : List Nat} {j : Nat} (hn : l.Nodup) (h : ∀ k, k ∈ l ↔ k = j) : l = [j] := by
  match l, hn, h with
  | [], _, h => exact absurd ((h j).mpr rfl) (by simp)
  | [a], _, h => rw [(h a).mp (by simp)]
  | a :: b :: r, hn, h =>
    have e1 := (h a).mp (by simp)
    have e2 := (h b).mp (by simp)
    subst e1
    subst e2
    simp at hn
theorem tell_one (G : Gd s) {i j n : Nat} {x : Cl06.Meeting} {g : Cl06.Guest} (hx : s.meetings[i]? = some x) (hg : x.guests[j]? = some g) (e : g.who = n) : Cl06.tell s i (fun (y : Cl06.Guest) => y.who == n) = tell1 s i x j g := by
  rw [tell_told hx (fun y => y.who == n) fun _ _ => rfl]
  have e1 : ixs (fun y => y.who == n) x x.guests.length = [j] := by
    refine only (ixs_nodup _ _ _) fun k => ?_
    rw [mem_ixs]
    constructor
    · rintro ⟨_, h2⟩
      cases hk : x.guests[k]? with
      | none => rw [hk] at h2; cases h2
      | some g' =>
        rw [hk] at h2
        have h2 : (g'.who == n) = true := h2
        have h2 : g'.who = n := by simpa using h2
        exact (G.one hx hg hk (e.trans h2.symm)).symm
    · rintro rfl
      refine ⟨(List.getElem?_eq_some_iff.mp hg).1, ?_⟩
      rw [hg]
      show (g.who == n) = true
      simpa using e
  rw [e1, ← List.nil_append [j], ← told_snoc (s := s) (i := i) (js := []) hg (by simp), told_nil hx G.room, bump_nil]
theorem filter_len {α : Type} (p : α → Bool) : ∀ l : List α, (l.filter p).length = ((l.map p).filter id).length
  | [] => rfl
  | a :: l => by
    rw [List.filter_cons, List.map_cons, List.filter_cons]
    have ih := filter_len p l
    cases h : p a <;> simp [ih]
theorem filter_set {α : Type} (p : α → Bool) {l : List α} {j : Nat} {y x : α} (h : l[j]? = some x) (e : p y = p x) : ((l.set j y).filter p).length = (l.filter p).length := by
  rw [filter_len, filter_len p l, map_set p l j y x h e]
theorem tell1_at {i j : Nat} {x : Cl06.Meeting} {g : Cl06.Guest} (hx : s.meetings[i]? = some x) : (tell1 s i x j g).meetings[i]? = some { x with guests := x.guests.set j (more g) } := (get_set hx).trans (if_pos rfl)
theorem tell1_asked {j : Nat} {x : Cl06.Meeting} {g : Cl06.Guest} (hg : x.guests[j]? = some g) : (ixs (fun g => g.asked) { x with guests := x.guests.set j (more g) } (x.guests.set j (more g)).length).length = (x.guests.filter fun g => g.asked).length := by
  have := ixs_len (fun g => g.asked) { x with guests := x.guests.set j (more g) }
  rw [show ({ x with guests := x.guests.set j (more g) } : Cl06.Meeting).guests = x.guests.set j (more g) from rfl] at this
  rw [this]
  exact filter_set _ hg rfl
end
section
variable {P : Program} {w : World} {K : PySem.W.Frag} {mg : Str → Option Value} {base : Heap} {C : Cs} {A : Ad}
theorem ok_call_off (T : Txt K mg C) (U : Env K mg C A) : FnOk P w K mg base CX0 5 A.f_call_off A.d_call_off ["world", "numbers"] (sp_call C D2) := by
  refine U.F_call_off.ok sc_call_off (fun vs H Q E h => ?_) (fun cdv A' outer s H vs Q E hr h => ?_)
  · obtain ⟨_, _, _, _, _, _, rfl, _⟩ := h
    rfl
  · obtain ⟨L, s', nl, ns, c, R, rfl, hnl, nf, ⟨m, rfl, rfl⟩, k⟩ := h
    obtain ⟨dw, hw⟩ := R.world
    refine ⟨_, (pss_cons (ps_set (i := 2) sc_call_off.nd rfl (Or.inl rfl) (pe_call (ok_refusal_to_change T U) (hr.mono (by decide)) rfl U.g_refusal_to_change U.F_refusal_to_change.kp U.b_refusal_to_change .nil pass0 (pa_cons (pv 0) (pa_cons (pe_ix ix_list (pv 1) pe_int (fun _ _ => rfl)) pa_nil)))) (pss_cons (ps_if (pt_cmpR op_lt (pv 2) pe_int (nomark _)) (pss_one (ps_ret (pe_lst (pa_cons (pv 2) pa_nil)))) pss_nil) (pss_cons (ps_set (i := 3) sc_call_off.nd rfl (Or.inl rfl) (pe_ix ix_list (pe_fld (pv 0) rfl) (pe_ix ix_list (pv 1) pe_int (fun _ _ => rfl)) (fun _ _ => rfl))) (pss_cons (ps_fld (pv 3) pe_int rfl) (pss_one (ps_ret (pe_lst (pa_cons (pe_meth (pv 0) T.cl_o U.m_World_tell_asked (ok_World_tell_asked T U) hr U.b_World_tell_asked .nil pass0 (pa_cons (pv 3) pa_nil)) pa_nil)))))))), ?_⟩
    refine ⟨_, rfl, _, rfl, rd_ix 0 hnl rfl ⟨L, s', m, R, rfl, fun hx => ?_, fun x hx ho => ?_, fun x hx ho => ?_⟩⟩
    · refine ⟨_, rfl, _, _, rfl, rfl, _, rfl, ?_⟩
      refine iteT ?_
      exact ⟨_, rfl, (show 1 ≤ sizeLine by decide), fun q hq => fin k (Stp.refl R) hq [-3] (on_none hx)⟩
    · refine ⟨_, rfl, _, _, rfl, rfl, _, rfl, ?_⟩
      refine iteT ?_
      exact ⟨_, rfl, (show 1 ≤ sizeLine by decide), fun q hq => fin k (Stp.refl R) hq [-2] (on_off hx ho)⟩
    · refine ⟨_, rfl, _, _, rfl, rfl, _, rfl, ?_⟩
      refine iteF ?_
      obtain ⟨dm, hm⟩ := R.meet hx
      refine ⟨_, rfl, rd_fld hw T.cl_o T.n_o_meetings rfl ⟨_, rfl, rd_ix 0 hnl rfl (rd_ix m R.lm (meetsV_at (lt_some hx)) ?_)⟩⟩
      refine ⟨_, rfl, st_fld hm T.cl_m T.n_m_off (show 6 < 1000 by decide) ?_⟩
      have S1 : Stp C H L s' (upd H (L.ma m) (.ins C.m dm (putF "off" (.int 1) (mf m (L.gl m) x)))) L (Cl06.setMeeting s' m { x with off := true }) :=
        Stp.meeting (x' := { x with off := true }) T.apart R hx rfl rfl (fun b o e n => up e n) ⟨dm, upd_same⟩
      generalize upd H (L.ma m) (.ins C.m dm (putF "off" (.int 1) (mf m (L.gl m) x))) = H1 at S1 ⊢
      have st : Cl06.step s' (.off m) = (Cl06.tell (Cl06.setMeeting s' m { x with off := true }) m fun (g : Cl06.Guest) => g.asked, [((x.guests.filter fun (g : Cl06.Guest) => g.asked).length : Int)]) := on_some hx ho
      obtain ⟨dw1, hw1⟩ := S1.rep.world
      have hx1 : (Cl06.setMeeting s' m { x with off := true }).meetings[m]? = some { x with off := true } := (get_set hx).trans (if_pos rfl)
      exact ⟨_, rfl, _, dw1, _, rfl, hw1, rfl, _, rfl, L, _, m, _, S1.rep, hx1, rfl, fun H2 la S2 => ⟨(show 1 ≤ sizeLine by decide), fun q hq => fin k (S1.trans S2) hq [(((x.guests.filter fun (g : Cl06.Guest) => g.asked).length : Nat) : Int)] st⟩⟩
theorem ok_take_off_person (T : Txt K mg C) (U : Env K mg C A) : FnOk P w K mg base CX0 4 A.f_take_off_person A.d_take_off_person ["world", "numbers"] (sp_call C D4) := by
  refine U.F_take_off_person.ok sc_take_off_person (fun vs H Q E h => ?_) (fun cdv A' outer s H vs Q E hr h => ?_)
  · obtain ⟨_, _, _, _, _, _, rfl, _⟩ := h
    rfl
  · obtain ⟨L, s', nl, ns, c, R, rfl, hnl, nf, ⟨m, n, rfl, rfl⟩, k⟩ := h
    obtain ⟨dw, hw⟩ := R.world
    refine ⟨_, (pss_cons (ps_set (i := 2) sc_take_off_person.nd rfl (Or.inl rfl) (pe_call (ok_refusal_to_change T U) (hr.mono (by decide)) rfl U.g_refusal_to_change U.F_refusal_to_change.kp U.b_refusal_to_change .nil pass0 (pa_cons (pv 0) (pa_cons (pe_ix ix_list (pv 1) pe_int (fun _ _ => rfl)) pa_nil)))) (pss_cons (ps_if (pt_cmpR op_lt (pv 2) pe_int (nomark _)) (pss_one (ps_ret (pe_lst (pa_cons (pv 2) pa_nil)))) pss_nil) (pss_cons (ps_set (i := 3) sc_take_off_person.nd rfl (Or.inl rfl) (pe_ix ix_list (pe_fld (pv 0) rfl) (pe_ix ix_list (pv 1) pe_int (fun _ _ => rfl)) (fun _ _ => rfl))) (pss_cons (ps_set (i := 4) sc_take_off_person.nd rfl (Or.inl rfl) (pe_meth (pv 3) T.cl_m U.m_Meeting_asked_guest_of (ok_Meeting_asked_guest_of T U) (hr.mono (by decide)) U.b_Meeting_asked_guest_of .nil pass0 (pa_cons (pe_ix ix_list (pv 1) pe_int (fun _ _ => rfl)) pa_nil))) (pss_cons (ps_if (pt_cmpR op_isN (pv 4) pe_non (nomark _)) (pss_one (ps_ret (pe_lst (pa_cons (pe_ci rfl T.k_NOT_SO) pa_nil)))) pss_nil) (pss_cons (ps_fld (pv 4) pe_int rfl) (pss_cons (ps_expr (pe_meth (pv 0) T.cl_o U.m_World_tell (ok_World_tell T U) hr U.b_World_tell .nil pass0 (pa_cons (pv 3) (pa_cons (pv 4) pa_nil)))) (pss_one (ps_ret (pe_lst (pa_cons (pe_callB call_len_seq rfl T.b_len PySem.boot_len (pa_cons (pe_meth0 (pv 3) T.cl_m U.m_Meeting_asked_guests (ok_Meeting_asked_guests T U) (hr.mono (by decide)) U.b_Meeting_asked_guests .nil pass0) pa_nil)) pa_nil))))))))))), ?_⟩
    refine ⟨_, rfl, _, rfl, rd_ix 0 hnl rfl ⟨L, s', m, R, rfl, fun hx => ?_, fun x hx ho => ?_, fun x hx ho => ?_⟩⟩
    · refine ⟨_, rfl, _, _, rfl, rfl, _, rfl, ?_⟩
      refine iteT ?_
      exact ⟨_, rfl, (show 1 ≤ sizeLine by decide), fun q hq => fin k (Stp.refl R) hq [-3] (on_none hx)⟩
    · refine ⟨_, rfl, _, _, rfl, rfl, _, rfl, ?_⟩
      refine iteT ?_
      exact ⟨_, rfl, (show 1 ≤ sizeLine by decide), fun q hq => fin k (Stp.refl R) hq [-2] (on_off hx ho)⟩
    · refine ⟨_, rfl, _, _, rfl, rfl, _, rfl, ?_⟩
      refine iteF ?_
      obtain ⟨dm, hm⟩ := R.meet hx
      have st : Cl06.step s' (.leave m n) = if (Cl06.guest x n).any (fun (y : Cl06.Guest) => y.asked) = false then (s', [-4]) else
        (Cl06.tell (Cl06.setMeeting s' m { x with guests := x.guests.map fun (y : Cl06.Guest) => if y.who = n then { y with asked := false } else y }) m fun (y : Cl06.Guest) => y.who == n, [(((x.guests.map fun (y : Cl06.Guest) => if y.who = n then { y with asked := false } else y).filter fun (y : Cl06.Guest) => y.asked).length : Int)]) := on_some hx ho
      refine ⟨_, rfl, rd_fld hw T.cl_o T.n_o_meetings rfl ⟨_, rfl, rd_ix 0 hnl rfl (rd_ix m R.lm (meetsV_at (lt_some hx)) ?_)⟩⟩
      refine ⟨_, rfl, _, dm, _, rfl, hm, rfl, _, rfl, rd_ix 1 hnl rfl ⟨L, s', m, n, x, R, hx, rfl, fun j g hg ew ea => ?_, fun hn => ?_⟩⟩
      · subst ew
        refine ⟨_, rfl, rfl, _, rfl, ?_⟩
        refine iteF ?_
        obtain ⟨dg, hga⟩ := R.guest hx hg
        refine ⟨_, rfl, st_fld hga T.cl_g T.n_g_asked (show 6 < 1000 by decide) ?_⟩
        have S1 : Stp C H L s' (upd H (L.ga m j) (.ins C.g dg (putF "asked" (.int 0) (gf g)))) L (Cl06.setMeeting s' m { x with guests := x.guests.set j { g with asked := false } }) :=
          Stp.guest (g' := { g with asked := false }) T.apart R hx hg rfl (fun b o e n => up e n) ⟨dg, upd_same⟩
        generalize upd H (L.ga m j) (.ins C.g dg (putF "asked" (.int 0) (gf g))) = H1 at S1 ⊢
        have hx1 : (Cl06.setMeeting s' m { x with guests := x.guests.set j { g with asked := false } }).meetings[m]? = some { x with guests := x.guests.set j { g with asked := false } } := (get_set hx).trans (if_pos rfl)
        have hg1 : ({ x with guests := x.guests.set j { g with asked := false } } : Cl06.Meeting).guests[j]? = some { g with asked := false } := (get_set hg).trans (if_pos rfl)
        obtain ⟨dw1, hw1⟩ := S1.rep.world
        refine ⟨_, rfl, _, dw1, _, rfl, hw1, rfl, _, rfl, _, rfl, L, _, m, j, _, _, S1.rep, hx1, hg1, rfl, fun H2 la S2 => ?_⟩
        have hx2 := tell1_at (j := j) (g := { g with asked := false }) hx1
        obtain ⟨dm2, hm2⟩ := S2.rep.meet hx2
        refine ⟨_, rfl, _, dm2, _, rfl, hm2, rfl, { L with la := la }, _, m, _, S2.rep, hx2, rfl, fun D hD => ⟨D, _, rfl, .inl (SqL.of upd_same), (show 1 ≤ sizeLine by decide), fun q hq => ?_⟩⟩
        refine fin k ((S1.trans S2).trans (S2.rep.laid (Same.upd' hD))) hq [_] ?_
        rw [st, List.length_map, if_neg]
        · have e1 := map_who R.good hx hg fun y => { y with asked := false }
          rw [e1, tell_one S1.rep.good hx1 hg1 rfl, tell1_asked hg1]
        · rw [guest_some R.good hx hg rfl]
          show ¬ g.asked = false
          rw [ea]
          decide
      · refine ⟨_, rfl, rfl, _, rfl, ?_⟩
        refine iteT ?_
        refine ⟨(show 1 ≤ sizeLine by decide), fun q hq => fin k (Stp.refl R) hq [-4] (st.trans (if_pos ?_))⟩
        cases hg : Cl06.guest x n with
        | none => rfl
        | some g =>
          obtain ⟨q1, q2⟩ := guest_mem hg
          exact hn g q1 q2
theorem ok_grant_wish (T : Txt K mg C) (U : Env K mg C A) : FnOk P w K mg base CX0 6 A.f_grant_wish A.d_grant_wish ["world", "numbers"] (sp_call C D6) := by
  refine U.F_grant_wish.ok sc_grant_wish (fun vs H Q E h => ?_) (fun cdv A' outer s H vs Q E hr h => ?_)
  · obtain ⟨_, _, _, _, _, _, rfl, _⟩ := h
    rfl
  · obtain ⟨L, s', nl, ns, c, R, rfl, hnl, nf, ⟨m, n, rfl, rfl⟩, k⟩ := h
    obtain ⟨dw, hw⟩ := R.world
    refine ⟨_, (pss_cons (ps_set (i := 2) sc_grant_wish.nd rfl (Or.inl rfl) (pe_call (ok_refusal_to_change T U) (hr.mono (by decide)) rfl U.g_refusal_to_change U.F_refusal_to_change.kp U.b_refusal_to_change .nil pass0 (pa_cons (pv 0) (pa_cons (pe_ix ix_list (pv 1) pe_int (fun _ _ => rfl)) pa_nil)))) (pss_cons (ps_if (pt_cmpR op_lt (pv 2) pe_int (nomark _)) (pss_one (ps_ret (pe_lst (pa_cons (pv 2) pa_nil)))) pss_nil) (pss_cons (ps_set (i := 3) sc_grant_wish.nd rfl (Or.inl rfl) (pe_ix ix_list (pe_fld (pv 0) rfl) (pe_ix ix_list (pv 1) pe_int (fun _ _ => rfl)) (fun _ _ => rfl))) (pss_cons (ps_set (i := 4) sc_grant_wish.nd rfl (Or.inl rfl) (pe_meth (pv 3) T.cl_m U.m_Meeting_asked_guest_of (ok_Meeting_asked_guest_of T U) (hr.mono (by decide)) U.b_Meeting_asked_guest_of .nil pass0 (pa_cons (pe_ix ix_list (pv 1) pe_int (fun _ _ => rfl)) pa_nil))) (pss_cons (ps_if (PW.pt (pw_or (pt_cmpR op_isN (pv 4) pe_non (nomark _)) (pw_or1 (pt_cmpR op_eq (pe_fld (pv 4) rfl) (pe_ci rfl T.k_NO_TIME) (nomark _))))) (pss_one (ps_ret (pe_lst (pa_cons (pe_ci rfl T.k_NOT_SO) pa_nil)))) pss_nil) (pss_cons (ps_expr (pe_meth (pv 0) T.cl_o U.m_World_move (ok_World_move T U) hr U.b_World_move .nil pass0 (pa_cons (pv 3) (pa_cons (pe_fld (pv 4) rfl) pa_nil)))) (pss_one (ps_ret (pe_lst (pa_cons (pe_fld (pv 3) rfl) (pa_cons (pe_fld (pv 3) rfl) pa_nil))))))))))), ?_⟩
    refine ⟨_, rfl, _, rfl, rd_ix 0 hnl rfl ⟨L, s', m, R, rfl, fun hx => ?_, fun x hx ho => ?_, fun x hx ho => ?_⟩⟩
    · refine ⟨_, rfl, _, _, rfl, rfl, _, rfl, ?_⟩
      refine iteT ?_
      exact ⟨_, rfl, (show 1 ≤ sizeLine by decide), fun q hq => fin k (Stp.refl R) hq [-3] (on_none hx)⟩
    · refine ⟨_, rfl, _, _, rfl, rfl, _, rfl, ?_⟩
      refine iteT ?_
      exact ⟨_, rfl, (show 1 ≤ sizeLine by decide), fun q hq => fin k (Stp.refl R) hq [-2] (on_off hx ho)⟩
    · refine ⟨_, rfl, _, _, rfl, rfl, _, rfl, ?_⟩
      refine iteF ?_
      obtain ⟨dm, hm⟩ := R.meet hx
      have st : Cl06.step s' (.grant m n) = match (Cl06.guest x n).bind fun (y : Cl06.Guest) => if y.asked = true then y.wish else none with
        | none => (s', [-4])
        | some t => (Cl06.moved s' m t, Cl06.nums [x.round + 1, t]) := on_some hx ho
      refine ⟨_, rfl, rd_fld hw T.cl_o T.n_o_meetings rfl ⟨_, rfl, rd_ix 0 hnl rfl (rd_ix m R.lm (meetsV_at (lt_some hx)) ?_)⟩⟩
      refine ⟨_, rfl, _, dm, _, rfl, hm, rfl, _, rfl, rd_ix 1 hnl rfl ⟨L, s', m, n, x, R, hx, rfl, fun j g hg ew ea => ?_, fun hn => ?_⟩⟩
      · refine ⟨_, rfl, rfl, _, rfl, ?_⟩
        refine iteF ?_
        obtain ⟨dg, hga⟩ := R.guest hx hg
        refine ⟨_, rfl, rd_fld hga T.cl_g T.n_g_wish rfl ⟨rfl, _, rfl, ?_⟩⟩
        rw [guest_some R.good hx hg ew] at st
        have st : Cl06.step s' (.grant m n) = match (if g.asked = true then g.wish else none) with
          | none => (s', [-4])
          | some t => (Cl06.moved s' m t, Cl06.nums [x.round + 1, t]) := st
        rw [if_pos ea] at st
        cases hwi : g.wish with
        | none =>
          rw [hwi] at st
          refine iteT ?_
          exact ⟨(show 1 ≤ sizeLine by decide), fun q hq => fin k (Stp.refl R) hq [-4] st⟩
        | some t =>
          rw [hwi] at st
          have e1 : decide (vW (some t) = V.int (-1)) = false := by
            rw [decide_eq_false_iff_not]
            intro q
            injection q with q
            have q : (t : Int) = -1 := q
            omega
          rw [e1]
          refine iteF ?_
          refine ⟨_, rfl, _, dw, _, rfl, hw, rfl, _, rfl, _, rfl, rd_fld hga T.cl_g T.n_g_wish rfl ⟨L, s', m, t, x, R, hx, (by rw [hwi]; rfl), fun H1 la S => ?_⟩⟩
          obtain ⟨y, hy, e2, e3⟩ := moved_at (t := t) hx
          obtain ⟨dm1, hm1⟩ := S.rep.meet hy
          refine ⟨_, rfl, rd_fld hm1 T.cl_m T.n_m_round_no rfl ⟨_, rfl, rd_fld hm1 T.cl_m T.n_m_time rfl ⟨(show 2 ≤ sizeLine by decide), fun q hq => ?_⟩⟩⟩
          refine fin k S hq [(y.round : Int), (y.time : Int)] ?_
          rw [e2, e3]
          exact st
      · refine ⟨_, rfl, rfl, _, rfl, ?_⟩
        refine iteT ?_
        refine iteT ?_
        refine ⟨(show 1 ≤ sizeLine by decide), fun q hq => fin k (Stp.refl R) hq [-4] ?_⟩
        cases hg : Cl06.guest x n with
        | none => rw [hg] at st; exact st
        | some g =>
          obtain ⟨q1, q2⟩ := guest_mem hg
          rw [hg] at st
          have st : Cl06.step s' (.grant m n) = match (if g.asked = true then g.wish else none) with
            | none => (s', [-4])
            | some t => (Cl06.moved s' m t, Cl06.nums [x.round + 1, t]) := st
          rw [if_neg (by rw [hn g q1 q2]; decide)] at st
          exact st
end
end Cw
end

section
set_option Elab.async false
set_option linter.all false
set_option maxRecDepth 100000
set_option maxHeartbeats 2000000
namespace Cw
open PySem PySem.Spec PyProof.Rows L2
section
variable {P : Program} {w : World} {K : PySem.W.Frag} {mg : Str → Option Value} {base : Heap} {C : Cs} {A : Ad}
theorem ok_ask_person (T : Txt K mg C) (U : Env K mg C A) : FnOk P w K mg base CX0 4 A.f_ask_person A.d_ask_person ["world", "numbers"] (sp_call C D3) := by
  refine U.F_ask_person.ok sc_ask_person (fun vs H Q E h => ?_) (fun cdv A' outer s H vs Q E hr h => ?_)
  · obtain ⟨_, _, _, _, _, _, rfl, _⟩ := h
    rfl
  · obtain ⟨L, s', nl, ns, c, R, rfl, hnl, nf, ⟨m, n, rfl, rfl⟩, k⟩ := h
    obtain ⟨dw, hw⟩ := R.world
    refine ⟨_, (pss_cons (ps_set (i := 2) sc_ask_person.nd rfl (Or.inl rfl) (pe_call (ok_refusal_to_change T U) (hr.mono (by decide)) rfl U.g_refusal_to_change U.F_refusal_to_change.kp U.b_refusal_to_change .nil pass0 (pa_cons (pv 0) (pa_cons (pe_ix ix_list (pv 1) pe_int (fun _ _ => rfl)) pa_nil)))) (pss_cons (ps_if (pt_cmpR op_lt (pv 2) pe_int (nomark _)) (pss_one (ps_ret (pe_lst (pa_cons (pv 2) pa_nil)))) pss_nil) (pss_cons (ps_set (i := 3) sc_ask_person.nd rfl (Or.inl rfl) (pe_ix ix_list (pe_fld (pv 0) rfl) (pe_ix ix_list (pv 1) pe_int (fun _ _ => rfl)) (fun _ _ => rfl))) (pss_cons (ps_set (i := 4) sc_ask_person.nd rfl (Or.inl rfl) (pe_ix ix_list (pv 1) pe_int (fun _ _ => rfl))) (pss_cons (ps_if (PW.pt (pw_or (pt_cmpR op_ge (pv 4) (pe_ci rfl T.k_PEOPLE) (nomark _)) (pw_or1 (pt_cmpR op_eq (pv 4) (pe_fld (pv 3) rfl) (nomark _))))) (pss_one (ps_ret (pe_lst (pa_cons (pe_ci rfl T.k_WRONG) pa_nil)))) pss_nil) (pss_cons (ps_set (i := 5) sc_ask_person.nd rfl (Or.inl rfl) (pe_meth (pv 3) T.cl_m U.m_Meeting_guest_of (ok_Meeting_guest_of T U) (hr.mono (by decide)) U.b_Meeting_guest_of .nil pass0 (pa_cons (pv 4) pa_nil))) (pss_cons (ps_if (pt_cmpR op_isN (pv 5) pe_non (nomark _)) (pss_cons (ps_set (i := 5) sc_ask_person.nd rfl (Or.inl rfl) (pe_make U.M_g (ok_Guest_init T U) (hr.mono (by decide)) rfl T.mg_g U.b_Guest_init .nil pass0 (pa_cons (pv 4) pa_nil))) (pss_one (ps_expr (pe_bm PySem.F.plainAttrs_list PySem.F.slot_list_append PySem.F.type_list_append mt_append (pe_fld (pv 3) rfl) (pa_cons (pv 5) pa_nil))))) (pss_one (ps_if (pt_cmpR op_eq (pe_fld (pv 5) rfl) pe_int (nomark _)) (pss_one (ps_ret (pe_lst (pa_cons (pe_ci rfl T.k_NOT_SO) pa_nil)))) pss_nil))) (pss_cons (ps_fld (pv 5) pe_int rfl) (pss_cons (ps_expr (pe_meth (pv 0) T.cl_o U.m_World_tell (ok_World_tell T U) hr U.b_World_tell .nil pass0 (pa_cons (pv 3) (pa_cons (pv 5) pa_nil)))) (pss_one (ps_ret (pe_lst (pa_cons (pe_callB call_len_seq rfl T.b_len PySem.boot_len (pa_cons (pe_meth0 (pv 3) T.cl_m U.m_Meeting_asked_guests (ok_Meeting_asked_guests T U) (hr.mono (by decide)) U.b_Meeting_asked_guests .nil pass0) pa_nil)) pa_nil))))))))))))), ?_⟩
    refine ⟨_, rfl, _, rfl, rd_ix 0 hnl rfl ⟨L, s', m, R, rfl, fun hx => ?_, fun x hx ho => ?_, fun x hx ho => ?_⟩⟩
    · refine ⟨_, rfl, _, _, rfl, rfl, _, rfl, ?_⟩
      refine iteT ?_
      exact ⟨_, rfl, (show 1 ≤ sizeLine by decide), fun q hq => fin k (Stp.refl R) hq [-3] (on_none hx)⟩
    · refine ⟨_, rfl, _, _, rfl, rfl, _, rfl, ?_⟩
      refine iteT ?_
      exact ⟨_, rfl, (show 1 ≤ sizeLine by decide), fun q hq => fin k (Stp.refl R) hq [-2] (on_off hx ho)⟩
    · refine ⟨_, rfl, _, _, rfl, rfl, _, rfl, ?_⟩
      refine iteF ?_
      obtain ⟨dm, hm⟩ := R.meet hx
      have st : Cl06.step s' (.ask m n) = if Cl06.PEOPLE ≤ n ∨ n = x.host then (s', [-1]) else if (Cl06.guest x n).any (fun (y : Cl06.Guest) => y.asked) = true then (s', [-4]) else
        (Cl06.tell (Cl06.setMeeting s' m { x with guests := if (Cl06.guest x n).isSome = true then x.guests.map (fun (y : Cl06.Guest) => if y.who = n then { y with asked := true } else y) else x.guests ++ [⟨n, 0, true, 0, 0, none⟩] }) m fun (y : Cl06.Guest) => y.who == n,
          [(((if (Cl06.guest x n).isSome = true then x.guests.map (fun (y : Cl06.Guest) => if y.who = n then { y with asked := true } else y) else x.guests ++ [⟨n, 0, true, 0, 0, none⟩]).filter fun (y : Cl06.Guest) => y.asked).length : Int)]) := on_some hx ho
      refine ⟨_, rfl, rd_fld hw T.cl_o T.n_o_meetings rfl ⟨_, rfl, rd_ix 0 hnl rfl (rd_ix m R.lm (meetsV_at (lt_some hx)) ?_)⟩⟩
      refine ⟨_, rfl, rd_ix 1 hnl rfl ?_⟩
      refine ⟨_, rfl, _, _, rfl, rfl, _, rfl, ?_⟩
      by_cases e5 : 5 ≤ n
      · rw [show decide ((5 : Int) ≤ (n : Int)) = true from decide_eq_true (by omega)]
        refine iteT ?_
        refine iteT ?_
        exact ⟨(show 1 ≤ sizeLine by decide), fun q hq => fin k (Stp.refl R) hq [-1] (st.trans (if_pos (.inl e5)))⟩
      · rw [show decide ((5 : Int) ≤ (n : Int)) = false from decide_eq_false (by omega)]
        refine iteF ?_
        refine ⟨_, rfl, _, rfl, rd_fld hm T.cl_m T.n_m_host rfl ⟨rfl, _, rfl, ?_⟩⟩
        by_cases eh : n = x.host
        · rw [show decide (V.int (n : Int) = V.int (x.host : Int)) = true by rw [eh]; simp]
          refine iteT ?_
          exact ⟨(show 1 ≤ sizeLine by decide), fun q hq => fin k (Stp.refl R) hq [-1] (st.trans (if_pos (.inr eh)))⟩
        · rw [show decide (V.int (n : Int) = V.int (x.host : Int)) = false by rw [decide_eq_false_iff_not]; intro q; injection q with q; omega]
          refine iteF ?_
          have st := st.trans (if_neg (by rintro (q | q); · exact e5 q
                                          · exact eh q))
          refine ⟨_, rfl, _, dm, _, rfl, hm, rfl, _, rfl, L, s', m, n, x, R, hx, rfl, fun j g hg ew => ?_, fun hn => ?_⟩
          · subst ew
            rw [guest_some R.good hx hg rfl] at st
            refine ⟨_, rfl, rfl, _, rfl, ?_⟩
            refine iteF ?_
            obtain ⟨dg, hga⟩ := R.guest hx hg
            refine ⟨_, rfl, rd_fld hga T.cl_g T.n_g_asked rfl ⟨rfl, _, rfl, ?_⟩⟩
            rw [bit_one]
            cases ea : g.asked with
            | true =>
              refine iteT ?_
              exact ⟨(show 1 ≤ sizeLine by decide), fun q hq => fin k (Stp.refl R) hq [-4] (st.trans (if_pos ea))⟩
            | false =>
              refine iteF ?_
              have st := st.trans (if_neg (show ¬ g.asked = true by rw [ea]; decide))
              rw [if_pos (show (some g).isSome = true from rfl), map_who R.good hx hg fun y => { y with asked := true }] at st
              refine ⟨_, rfl, st_fld hga T.cl_g T.n_g_asked (show 6 < 1000 by decide) ?_⟩
              have S1 : Stp C H L s' (upd H (L.ga m j) (.ins C.g dg (putF "asked" (.int 1) (gf g)))) L (Cl06.setMeeting s' m { x with guests := x.guests.set j { g with asked := true } }) :=
                Stp.guest (g' := { g with asked := true }) T.apart R hx hg rfl (fun b o e n => up e n) ⟨dg, upd_same⟩
              generalize upd H (L.ga m j) (.ins C.g dg (putF "asked" (.int 1) (gf g))) = H1 at S1 ⊢
              have hx1 : (Cl06.setMeeting s' m { x with guests := x.guests.set j { g with asked := true } }).meetings[m]? = some { x with guests := x.guests.set j { g with asked := true } } := (get_set hx).trans (if_pos rfl)
              have hg1 : ({ x with guests := x.guests.set j { g with asked := true } } : Cl06.Meeting).guests[j]? = some { g with asked := true } := (get_set hg).trans (if_pos rfl)
              obtain ⟨dw1, hw1⟩ := S1.rep.world
              refine ⟨_, rfl, _, dw1, _, rfl, hw1, rfl, _, rfl, _, rfl, L, _, m, j, _, _, S1.rep, hx1, hg1, rfl, fun H2 la S2 => ?_⟩
              have hx2 := tell1_at (j := j) (g := { g with asked := true }) hx1
              obtain ⟨dm2, hm2⟩ := S2.rep.meet hx2
              refine ⟨_, rfl, _, dm2, _, rfl, hm2, rfl, { L with la := la }, _, m, _, S2.rep, hx2, rfl, fun D hD => ⟨D, _, rfl, .inl (SqL.of upd_same), (show 1 ≤ sizeLine by decide), fun q hq => ?_⟩⟩
              refine fin k ((S1.trans S2).trans (S2.rep.laid (Same.upd' hD))) hq [_] ?_
              rw [st, List.length_map, tell_one S1.rep.good hx1 hg1 rfl, tell1_asked hg1]
          · rw [guest_none hn] at st
            have st := st.trans (if_neg (show ¬ (Option.none : Option Cl06.Guest).any (fun (y : Cl06.Guest) => y.asked) = true by decide))
            rw [if_neg (show ¬ (Option.none : Option Cl06.Guest).isSome = true by decide)] at st
            refine ⟨_, rfl, rfl, _, rfl, ?_⟩
            refine iteT ?_
            refine ⟨_, rfl, fun y dy hy hdy ny => ⟨y, dy, n, rfl, upd_same, rfl, ?_⟩⟩
            rw [upd_upd]
            obtain ⟨H1, eH1⟩ : ∃ H1, H1 = upd (upd H dy (.own y)) y (.ins C.g dy (gf ⟨n, 0, true, 0, 0, none⟩)) := ⟨_, rfl⟩
            have s1 : Same H H1 := fun b o e => by rw [eH1]; exact up (up e (ne_of_none e hdy)) (ne_of_none e hy)
            have hy1 : H1 y = some (.ins C.g dy (gf ⟨n, 0, true, 0, 0, none⟩)) := by rw [eH1]; exact upd_same
            rw [← eH1]
            have hgl1 := s1 _ _ (R.gl hx)
            refine ⟨_, rfl, rd_fld (s1 _ _ hm) T.cl_m T.n_m_guests rfl ⟨.inl ⟨rfl, _, SqL.of hgl1⟩, _, rfl, _, _, _, rfl, rfl, hgl1, ?_, ?_⟩⟩
            · rw [guestsV_len]
              exact R.good.fiveL hx
            · have nyg : y ≠ L.gl m := fun e => by rw [e, R.gl hx] at hy; cases hy
              have S1 : Stp C H L s' (upd H1 (L.gl m) (.lst (guestsV L m x.guests.length ++ [V.ref y]))) (L.newGuest m x.guests.length y) (Cl06.setMeeting s' m { x with guests := x.guests ++ [⟨n, 0, true, 0, 0, none⟩] }) := by
                refine Stp.newGuest T.apart R hx (fun q => ?_) ⟨by show n < 5; omega, eh⟩ hy (fun b o e nb => up (s1 b o e) nb) upd_same ⟨dy, up hy1 nyg⟩
                obtain ⟨g, hg, e⟩ := List.mem_map.mp q
                exact hn g hg e
              generalize upd H1 (L.gl m) (.lst (guestsV L m x.guests.length ++ [V.ref y])) = H2 at S1 ⊢
              have hx1 : (Cl06.setMeeting s' m { x with guests := x.guests ++ [⟨n, 0, true, 0, 0, none⟩] }).meetings[m]? = some { x with guests := x.guests ++ [⟨n, 0, true, 0, 0, none⟩] } := (get_set hx).trans (if_pos rfl)
              have hg1 : ({ x with guests := x.guests ++ [⟨n, 0, true, 0, 0, none⟩] } : Cl06.Meeting).guests[x.guests.length]? = some ⟨n, 0, true, 0, 0, none⟩ := by
                show (x.guests ++ [_])[x.guests.length]? = _
                simp
              have ey : (L.newGuest m x.guests.length y).ga m x.guests.length = y := if_pos ⟨rfl, rfl⟩
              obtain ⟨dg, hga⟩ := S1.rep.guest hx1 hg1
              rw [ey] at hga
              refine ⟨_, rfl, st_fld hga T.cl_g T.n_g_asked (show 6 < 1000 by decide) ?_⟩
              have S2 : Stp C H2 (L.newGuest m x.guests.length y) (Cl06.setMeeting s' m { x with guests := x.guests ++ [⟨n, 0, true, 0, 0, none⟩] }) (upd H2 y (.ins C.g dg (putF "asked" (.int 1) (gf ⟨n, 0, true, 0, 0, none⟩)))) (L.newGuest m x.guests.length y) (Cl06.setMeeting s' m { x with guests := x.guests ++ [⟨n, 0, true, 0, 0, none⟩] }) := by
                have := Stp.guest (H' := upd H2 y (.ins C.g dg (putF "asked" (.int 1) (gf ⟨n, 0, true, 0, 0, none⟩)))) (g' := ⟨n, 0, true, 0, 0, none⟩) T.apart S1.rep hx1 hg1 rfl (fun b o e nb => by rw [ey] at nb; exact up e nb) (by rw [ey]; exact ⟨dg, upd_same⟩)
                rw [show ({ x with guests := x.guests ++ [⟨n, 0, true, 0, 0, none⟩] } : Cl06.Meeting).guests.set x.guests.length ⟨n, 0, true, 0, 0, none⟩ = x.guests ++ [⟨n, 0, true, 0, 0, none⟩] from set_same hg1] at this
                have e2 : Cl06.setMeeting (Cl06.setMeeting s' m { x with guests := x.guests ++ [⟨n, 0, true, 0, 0, none⟩] }) m { x with guests := x.guests ++ [⟨n, 0, true, 0, 0, none⟩] } = Cl06.setMeeting s' m { x with guests := x.guests ++ [⟨n, 0, true, 0, 0, none⟩] } := by
                  unfold Cl06.setMeeting
                  show Cl06.State.mk ((s'.meetings.set m _).set m _) _ _ = _
                  rw [List.set_set]
                rw [show ({ ({ x with guests := x.guests ++ [⟨n, 0, true, 0, 0, none⟩] } : Cl06.Meeting) with guests := x.guests ++ [⟨n, 0, true, 0, 0, none⟩] } : Cl06.Meeting) = { x with guests := x.guests ++ [⟨n, 0, true, 0, 0, none⟩] } from rfl, e2] at this
                exact this
              generalize upd H2 y (.ins C.g dg (putF "asked" (.int 1) (gf ⟨n, 0, true, 0, 0, none⟩))) = H3 at S2 ⊢
              obtain ⟨dw1, hw1⟩ := S2.rep.world
              refine ⟨_, rfl, _, dw1, _, rfl, hw1, rfl, _, rfl, _, rfl, L.newGuest m x.guests.length y, _, m, x.guests.length, _, _, S2.rep, hx1, hg1, (by rw [ey]; rfl), fun H4 la S3 => ?_⟩
              have hx2 := tell1_at (j := x.guests.length) (g := ⟨n, 0, true, 0, 0, none⟩) hx1
              obtain ⟨dm2, hm2⟩ := S3.rep.meet hx2
              refine ⟨_, rfl, _, dm2, _, rfl, hm2, rfl, { L.newGuest m x.guests.length y with la := la }, _, m, _, S3.rep, hx2, rfl, fun D hD => ⟨D, _, rfl, .inl (SqL.of upd_same), (show 1 ≤ sizeLine by decide), fun q hq => ?_⟩⟩
              refine fin k (((S1.trans S2).trans S3).trans (S3.rep.laid (Same.upd' hD))) hq [_] ?_
              rw [st, List.length_map, tell_one S1.rep.good hx1 hg1 rfl, tell1_asked hg1]
theorem ok_nudge_guests (T : Txt K mg C) (U : Env K mg C A) : FnOk P w K mg base CX0 3 A.f_nudge_guests A.d_nudge_guests ["world", "numbers"] (sp_call C D7) := by
  refine U.F_nudge_guests.ok sc_nudge_guests (fun vs H Q E h => ?_) (fun cdv A' outer s H vs Q E hr h => ?_)
  · obtain ⟨_, _, _, _, _, _, rfl, _⟩ := h
    rfl
  · obtain ⟨L, s', nl, ns, c, R, rfl, hnl, nf, ⟨m, rfl, rfl⟩, k⟩ := h
    obtain ⟨dw, hw⟩ := R.world
    refine ⟨_, (pss_cons (ps_if (pt_not (pt_val (pe_call (ok_is_meeting T U) (hr.mono (by decide)) rfl U.g_is_meeting U.F_is_meeting.kp U.b_is_meeting .nil pass0 (pa_cons (pv 0) (pa_cons (pe_ix ix_list (pv 1) pe_int (fun _ _ => rfl)) pa_nil))))) (pss_one (ps_ret (pe_lst (pa_cons (pe_ci rfl T.k_NOT_THERE) pa_nil)))) pss_nil) (pss_cons (ps_set (i := 2) sc_nudge_guests.nd rfl (Or.inl rfl) (pe_ix ix_list (pe_fld (pv 0) rfl) (pe_ix ix_list (pv 1) pe_int (fun _ _ => rfl)) (fun _ _ => rfl))) (pss_cons (ps_for PassesOwn.never rfl (pi_list (pe_fld (pv 2) rfl)) (pg_name (i := 3) sc_nudge_guests.nd rfl (Or.inl rfl)) (pss_one (ps_expr (pe_meth (pv 0) T.cl_o U.m_World_send (ok_World_send T U) (hr.mono (by decide)) U.b_World_send .nil pass0 (pa_cons (pe_make U.M_w (ok_Word_init T U) hr rfl T.mg_w U.b_Word_init .nil pass0 (pa_cons (pv 2) (pa_cons (pv 3) pa_nil))) pa_nil))))) (pss_one (ps_ret (pe_lst (pa_cons (pe_callB call_len_seq rfl T.b_len PySem.boot_len (pa_cons (pe_fld (pv 2) rfl) pa_nil)) pa_nil))))))), ?_⟩
    refine ⟨_, rfl, _, rfl, rd_ix 0 hnl rfl ⟨L, s', m, R, rfl, _, rfl, ?_⟩⟩
    cases hx : s'.meetings[m]? with
    | none =>
      refine iteT ?_
      exact ⟨(show 1 ≤ sizeLine by decide), fun q hq => fin k (Stp.refl R) hq [-3] (known_none hx)⟩
    | some x =>
      refine iteF ?_
      obtain ⟨dm, hm⟩ := R.meet hx
      have hgl := R.gl hx
      have st : Cl06.step s' (.nudge m) = (Cl06.send s' (x.guests.map (Cl06.word x m)), [(x.guests.length : Int)]) := known_some hx
      refine ⟨_, rfl, rd_fld hw T.cl_o T.n_o_meetings rfl ⟨_, rfl, rd_ix 0 hnl rfl (rd_ix m R.lm (meetsV_at (lt_some hx)) ?_)⟩⟩
      refine ⟨_, rfl, rd_fld hm T.cl_m T.n_m_guests rfl ⟨_, rfl, ⟨_, SqL.of hgl⟩, for_list (K := K) (a := L.gl m) (xs := guestsV L m x.guests.length)
        (fun n σ H' => (∃ v : Option V, σ = [some (.ref L.w), some (.ref nl), some (.ref (L.ma m)), v]) ∧ ∃ la, Stp C H L s' H' { L with la := la } (Cl06.send s' ((x.guests.take n).map (Cl06.word x m))))
        ⟨⟨none, rfl⟩, L.la, ?_⟩ (fun n σ H' _ ⟨_, la, S⟩ => SqL.of (S.rep.gl (i := m) (x := x) hx)) ?_ ?_⟩⟩
      · rw [List.take_zero, List.map_nil, send_nil R.good.room]
        exact Stp.refl R
      · rintro n v σ H' hv ⟨⟨v0, rfl⟩, la, S⟩
        obtain ⟨hlt, rfl⟩ := guestsV_at hv
        obtain ⟨g, hg⟩ : ∃ g, x.guests[n]? = some g := ⟨_, List.getElem?_eq_getElem hlt⟩
        have hxk : (Cl06.send s' ((x.guests.take n).map (Cl06.word x m))).meetings[m]? = some x := hx
        obtain ⟨dw1, hw1⟩ := S.rep.world
        obtain ⟨dm1, hm1⟩ := S.rep.meet hxk
        obtain ⟨dg1, hga1⟩ := S.rep.guest hxk hg
        refine ⟨_, rfl, _, dw1, _, rfl, hw1, rfl, _, rfl, _, rfl, fun y dy hy hdy ny => ?_⟩
        have nn : ∀ b o, H' b = some o → b ≠ y ∧ b ≠ dy := fun b o e => ⟨ne_of_none e hy, ne_of_none e hdy⟩
        have kp : ∀ b o, H' b = some o → upd (upd H' dy (.own y)) y (.ins C.w dy []) b = some o := fun b o e => up (up e (nn b o e).2) (nn b o e).1
        refine ⟨y, dy, _, dm1, _, _, dg1, m, _, _, rfl, upd_same, kp _ _ hm1, kp _ _ hga1, rfl, ?_⟩
        rw [upd_upd]
        have s2 : Same H' (upd (upd H' dy (.own y)) y (.ins C.w dy (wf (Cl06.word x m g)))) := fun b o e => up (up e (nn b o e).2) (nn b o e).1
        have S2 := S.rep.laid s2
        refine ⟨{ L with la := la }, _, y, Cl06.word x m g, S2.rep, rfl, .inl ⟨rfl, dy, upd_same⟩, ⟨lt_some hxk, fun _ => ⟨(R.good.who m x g hx (List.mem_of_getElem? hg)).1, fun x' hx' => ?_⟩⟩, fun H'' la' S3 => ?_⟩
        · have hx' : s'.meetings[m]? = some x' := hx'
          rw [hx] at hx'
          cases hx'
          exact (R.good.who m x g hx (List.mem_of_getElem? hg)).2
        · refine ⟨⟨_, rfl⟩, la', ?_⟩
          rw [take_snoc' hg, List.map_append, ← send_send]
          exact S.trans (S2.trans S3)
      · rintro σ H' ⟨⟨v0, rfl⟩, la, S⟩
        rw [guestsV_len, List.take_length] at S
        have hxk : (Cl06.send s' (x.guests.map (Cl06.word x m))).meetings[m]? = some x := hx
        obtain ⟨dm1, hm1⟩ := S.rep.meet hxk
        refine ⟨_, rfl, rd_fld hm1 T.cl_m T.n_m_guests rfl ⟨_, _, rfl, .inl (SqL.of (S.rep.gl hxk)), (show 1 ≤ sizeLine by decide), fun q hq => ?_⟩⟩
        refine fin k S hq [_] ?_
        rw [guestsV_len]
        exact st
end
end Cw
end

section
set_option Elab.async false
set_option linter.all false
set_option maxRecDepth 100000
set_option maxHeartbeats 2000000
namespace Cw
open PySem PySem.Spec PyProof.Rows L2
section
variable {C : Cs} {H H' : Hp} {L : Lay} {s : Cl06.State}
theorem seqIx {k n : Nat} (h : k < n) : seqIndex? (k : Int) n = some k := by
  unfold seqIndex?
  simp
  omega
theorem erase_at {α : Type} {l : List α} {k n : Nat} {a : α} (h : (l.eraseIdx k)[n]? = some a) : l[if n < k then n else n + 1]? = some a := by
  rw [List.getElem?_eraseIdx] at h
  by_cases e : n < k
  · rw [if_pos e] at h ⊢
    exact h
  · rw [if_neg e] at h ⊢
    exact h
/-- a letter is taken out of the row -/
theorem Stp.erase (A : C.Apart) (R : Rep C H L s) {k : Nat} (hfr : ∀ b o, H b = some o → b ≠ L.ll → H' b = some o) (hnew : H' L.ll = some (.lst ((L.la.eraseIdx k).map V.ref))) :
    Stp C H L s H' { L with la := L.la.eraseIdx k } { s with letters := s.letters.eraseIdx k } := by
  refine Stp.letters A R hfr hnew ?_ (fun n a l h1 h2 => R.lets _ a l (erase_at h1) (erase_at h2)) ?_ (fun l hl => R.good.lets l (List.mem_of_mem_eraseIdx hl))
  · rw [List.length_eraseIdx, List.length_eraseIdx, R.llen]
  · have := R.good.room
    rw [List.length_eraseIdx]
    split <;> omega
theorem map_erase {α β : Type} (f : α → β) : ∀ (l : List α) (k : Nat), (l.map f).eraseIdx k = (l.eraseIdx k).map f
  | [], _ => by simp
  | a :: l, 0 => rfl
  | a :: l, k + 1 => by
    show f a :: (l.map f).eraseIdx k = f a :: (l.eraseIdx k).map f
    rw [map_erase f l k]
end
section
variable {P : Program} {w : World} {K : PySem.W.Frag} {mg : Str → Option Value} {base : Heap} {C : Cs} {A : Ad}
theorem ok_take_letter (T : Txt K mg C) (U : Env K mg C A) : FnOk P w K mg base CX0 5 A.f_take_letter A.d_take_letter ["world", "numbers"] (sp_call C D9) := by
  refine U.F_take_letter.ok sc_take_letter (fun vs H Q E h => ?_) (fun cdv A' outer s H vs Q E hr h => ?_)
  · obtain ⟨_, _, _, _, _, _, rfl, _⟩ := h
    rfl
  · obtain ⟨L, s', nl, ns, c, R, rfl, hnl, nf, ⟨n, rfl, rfl⟩, k⟩ := h
    obtain ⟨dw, hw⟩ := R.world
    have hll := R.ll
    refine ⟨_, (pss_cons (ps_if (pt_not (pt_val (pe_call (ok_is_letter T U) (hr.mono (by decide)) rfl U.g_is_letter U.F_is_letter.kp U.b_is_letter .nil pass0 (pa_cons (pv 0) (pa_cons (pe_ix ix_list (pv 1) pe_int (fun _ _ => rfl)) pa_nil))))) (pss_one (ps_ret (pe_lst (pa_cons (pe_ci rfl T.k_NOT_THERE) pa_nil)))) pss_nil) (pss_one (ps_ret (pe_lst (pa_cons (pe_meth (pv 0) T.cl_o U.m_World_hand_over (ok_World_hand_over T U) hr U.b_World_hand_over .nil pass0 (pa_cons (pe_bm PySem.F.plainAttrs_list PySem.F.slot_list_pop PySem.F.type_list_pop mt_popAt (pe_fld (pv 0) rfl) (pa_cons (pe_ix ix_list (pv 1) pe_int (fun _ _ => rfl)) pa_nil)) pa_nil)) pa_nil))))), ?_⟩
    refine ⟨_, rfl, _, rfl, rd_ix 0 hnl rfl ⟨L, s', n, R, rfl, _, rfl, ?_⟩⟩
    cases hl : s'.letters[n]? with
    | none =>
      refine iteT ?_
      refine ⟨(show 1 ≤ sizeLine by decide), fun q hq => fin k (Stp.refl R) hq [-3] ?_⟩
      show (match s'.letters[n]? with | none => (s', [-3]) | some x => _) = _
      rw [hl]
    | some l =>
      refine iteF ?_
      have e : n < s'.letters.length := (List.getElem?_eq_some_iff.mp hl).1
      have hr100 := R.good.room
      obtain ⟨a, ha⟩ : ∃ a, L.la[n]? = some a := ⟨_, List.getElem?_eq_getElem (by rw [R.llen]; exact e)⟩
      have hla := R.lets n a l ha hl
      have hlo := R.good.lets l (List.mem_of_getElem? hl)
      refine ⟨_, rfl, _, dw, _, rfl, hw, rfl, _, rfl, rd_fld hw T.cl_o T.n_o_letters rfl ⟨.inl ⟨rfl, _, SqL.of hll⟩, _, rfl, rd_ix 0 hnl rfl ⟨L.ll, _, _, n, V.ref a, rfl, rfl, hll, by omega, by omega, seqIx (by rw [List.length_map, R.llen]; exact e), by rw [List.getElem?_map, ha]; rfl, ?_⟩⟩⟩
      have S1 : Stp C H L s' (upd H L.ll (.lst ((L.la.map V.ref).eraseIdx n))) { L with la := L.la.eraseIdx n } { s' with letters := s'.letters.eraseIdx n } :=
        Stp.erase T.apart R (fun b o e nb => up e nb) (by rw [upd_same, map_erase])
      refine ⟨{ L with la := L.la.eraseIdx n }, _, a, l, S1.rep, rfl, S1.let_ R T.apart hla, hlo, fun H2 L2 S2 => ⟨(show 1 ≤ sizeLine by decide), fun q hq => ?_⟩⟩
      refine fin k (S1.trans S2) hq [_] ?_
      show (match s'.letters[n]? with | none => (s', [-3]) | some x => _) = _
      rw [hl]
theorem ok_keep_letter (T : Txt K mg C) (U : Env K mg C A) : FnOk P w K mg base CX0 5 A.f_keep_letter A.d_keep_letter ["world", "numbers"] (sp_call C D10) := by
  refine U.F_keep_letter.ok sc_keep_letter (fun vs H Q E h => ?_) (fun cdv A' outer s H vs Q E hr h => ?_)
  · obtain ⟨_, _, _, _, _, _, rfl, _⟩ := h
    rfl
  · obtain ⟨L, s', nl, ns, c, R, rfl, hnl, nf, ⟨n, rfl, rfl⟩, k⟩ := h
    obtain ⟨dw, hw⟩ := R.world
    have hll := R.ll
    refine ⟨_, (pss_cons (ps_if (pt_not (pt_val (pe_call (ok_is_letter T U) (hr.mono (by decide)) rfl U.g_is_letter U.F_is_letter.kp U.b_is_letter .nil pass0 (pa_cons (pv 0) (pa_cons (pe_ix ix_list (pv 1) pe_int (fun _ _ => rfl)) pa_nil))))) (pss_one (ps_ret (pe_lst (pa_cons (pe_ci rfl T.k_NOT_THERE) pa_nil)))) pss_nil) (pss_one (ps_ret (pe_lst (pa_cons (pe_meth (pv 0) T.cl_o U.m_World_hand_over (ok_World_hand_over T U) hr U.b_World_hand_over .nil pass0 (pa_cons (pe_ix ix_list (pe_fld (pv 0) rfl) (pe_ix ix_list (pv 1) pe_int (fun _ _ => rfl)) (fun _ _ => rfl)) pa_nil)) pa_nil))))), ?_⟩
    refine ⟨_, rfl, _, rfl, rd_ix 0 hnl rfl ⟨L, s', n, R, rfl, _, rfl, ?_⟩⟩
    cases hl : s'.letters[n]? with
    | none =>
      refine iteT ?_
      refine ⟨(show 1 ≤ sizeLine by decide), fun q hq => fin k (Stp.refl R) hq [-3] ?_⟩
      show (match s'.letters[n]? with | none => (s', [-3]) | some x => _) = _
      rw [hl]
    | some l =>
      refine iteF ?_
      have e : n < s'.letters.length := (List.getElem?_eq_some_iff.mp hl).1
      obtain ⟨a, ha⟩ : ∃ a, L.la[n]? = some a := ⟨_, List.getElem?_eq_getElem (by rw [R.llen]; exact e)⟩
      have hla := R.lets n a l ha hl
      have hlo := R.good.lets l (List.mem_of_getElem? hl)
      have hat : (L.la.map V.ref)[n]? = some (V.ref a) := by rw [List.getElem?_map, ha]; rfl
      refine ⟨_, rfl, _, dw, _, rfl, hw, rfl, _, rfl, rd_fld hw T.cl_o T.n_o_letters rfl ⟨_, rfl, rd_ix 0 hnl rfl (rd_ix n hll hat ⟨L, s', a, l, R, rfl, hla, hlo, fun H2 L2 S2 => ⟨(show 1 ≤ sizeLine by decide), fun q hq => ?_⟩⟩)⟩⟩
      refine fin k S2 hq [_] ?_
      show (match s'.letters[n]? with | none => (s', [-3]) | some x => _) = _
      rw [hl]
theorem ok_lose_letter (T : Txt K mg C) (U : Env K mg C A) : FnOk P w K mg base CX0 2 A.f_lose_letter A.d_lose_letter ["world", "numbers"] (sp_call C D11) := by
  refine U.F_lose_letter.ok sc_lose_letter (fun vs H Q E h => ?_) (fun cdv A' outer s H vs Q E hr h => ?_)
  · obtain ⟨_, _, _, _, _, _, rfl, _⟩ := h
    rfl
  · obtain ⟨L, s', nl, ns, c, R, rfl, hnl, nf, ⟨n, rfl, rfl⟩, k⟩ := h
    obtain ⟨dw, hw⟩ := R.world
    have hll := R.ll
    have st : Cl06.step s' (.lose n) = if s'.letters.length ≤ n then (s', [-3]) else ({ s' with letters := s'.letters.eraseIdx n }, [0]) := rfl
    refine ⟨_, (pss_cons (ps_if (pt_not (pt_val (pe_call (ok_is_letter T U) hr rfl U.g_is_letter U.F_is_letter.kp U.b_is_letter .nil pass0 (pa_cons (pv 0) (pa_cons (pe_ix ix_list (pv 1) pe_int (fun _ _ => rfl)) pa_nil))))) (pss_one (ps_ret (pe_lst (pa_cons (pe_ci rfl T.k_NOT_THERE) pa_nil)))) pss_nil) (pss_cons (ps_expr (pe_bm PySem.F.plainAttrs_list PySem.F.slot_list_pop PySem.F.type_list_pop mt_popAt (pe_fld (pv 0) rfl) (pa_cons (pe_ix ix_list (pv 1) pe_int (fun _ _ => rfl)) pa_nil))) (pss_one (ps_ret (pe_lst (pa_cons pe_int pa_nil)))))), ?_⟩
    refine ⟨_, rfl, _, rfl, rd_ix 0 hnl rfl ⟨L, s', n, R, rfl, _, rfl, ?_⟩⟩
    cases hl : s'.letters[n]? with
    | none =>
      refine iteT ?_
      exact ⟨(show 1 ≤ sizeLine by decide), fun q hq => fin k (Stp.refl R) hq [-3] (st.trans (if_pos (List.getElem?_eq_none_iff.mp hl)))⟩
    | some l =>
      refine iteF ?_
      have e : n < s'.letters.length := (List.getElem?_eq_some_iff.mp hl).1
      have hr100 := R.good.room
      obtain ⟨a, ha⟩ : ∃ a, L.la[n]? = some a := ⟨_, List.getElem?_eq_getElem (by rw [R.llen]; exact e)⟩
      refine ⟨_, rfl, rd_fld hw T.cl_o T.n_o_letters rfl ⟨.inl ⟨rfl, _, SqL.of hll⟩, _, rfl, rd_ix 0 hnl rfl ⟨L.ll, _, _, n, V.ref a, rfl, rfl, hll, by omega, by omega, seqIx (by rw [List.length_map, R.llen]; exact e), by rw [List.getElem?_map, ha]; rfl, ?_⟩⟩⟩
      have S1 : Stp C H L s' (upd H L.ll (.lst ((L.la.map V.ref).eraseIdx n))) { L with la := L.la.eraseIdx n } { s' with letters := s'.letters.eraseIdx n } :=
        Stp.erase T.apart R (fun b o e nb => up e nb) (by rw [upd_same, map_erase])
      exact ⟨(show 1 ≤ sizeLine by decide), fun q hq => fin k S1 hq [0] (st.trans (if_neg (by omega)))⟩
theorem ok_press_answer (T : Txt K mg C) (U : Env K mg C A) : FnOk P w K mg base CX0 3 A.f_press_answer A.d_press_answer ["world", "numbers"] (sp_call C D8) := by
  refine U.F_press_answer.ok sc_press_answer (fun vs H Q E h => ?_) (fun cdv A' outer s H vs Q E hr h => ?_)
  · obtain ⟨_, _, _, _, _, _, rfl, _⟩ := h
    rfl
  · obtain ⟨L, s', nl, ns, c, R, rfl, hnl, nf, ⟨p, m, rfl, rfl⟩, k⟩ := h
    obtain ⟨dw, hw⟩ := R.world
    refine ⟨_, (pss_cons (ps_set (i := 2) sc_press_answer.nd rfl (Or.inl rfl) (pe_ix ix_list (pv 1) pe_int (fun _ _ => rfl))) (pss_cons (ps_set (i := 3) sc_press_answer.nd rfl (Or.inl rfl) (pe_ix ix_list (pv 1) pe_int (fun _ _ => rfl))) (pss_cons (ps_if (pt_not (pt_val (pe_call (ok_is_meeting T U) (hr.mono (by decide)) rfl U.g_is_meeting U.F_is_meeting.kp U.b_is_meeting .nil pass0 (pa_cons (pv 0) (pa_cons (pv 3) pa_nil))))) (pss_one (ps_ret (pe_lst (pa_cons (pe_ci rfl T.k_NOT_THERE) pa_nil)))) pss_nil) (pss_cons (ps_set (i := 4) sc_press_answer.nd rfl (Or.inl rfl) (pe_meth (pv 0) T.cl_o U.m_World_copy_of (ok_World_copy_of T U) (hr.mono (by decide)) U.b_World_copy_of .nil pass0 (pa_cons (pv 2) (pa_cons (pv 3) pa_nil)))) (pss_cons (ps_if (pt_cmpR op_isN (pv 4) pe_non (nomark _)) (pss_one (ps_ret (pe_lst (pa_cons (pe_ci rfl T.k_NOT_SO) pa_nil)))) pss_nil) (pss_cons (ps_if (pt_cmpR op_eq (pe_fld (pv 4) rfl) (pe_ci rfl T.k_NO_ANSWER) (nomark _)) (pss_one (ps_ret (pe_lst (pa_cons (pe_ci rfl T.k_OVER) pa_nil)))) pss_nil) (pss_cons (ps_expr (pe_meth (pv 0) T.cl_o U.m_World_send (ok_World_send T U) (hr.mono (by decide)) U.b_World_send .nil pass0 (pa_cons (pe_make U.M_a (ok_Answer_init T U) hr rfl T.mg_a U.b_Answer_init .nil pass0 (pa_cons (pe_ix ix_list (pe_fld (pv 0) rfl) (pv 3) (fun _ _ => rfl)) (pa_cons (pv 2) (pa_cons (pv 4) pa_nil)))) pa_nil))) (pss_one (ps_ret (pe_lst (pa_cons (pe_fld (pv 4) rfl) pa_nil))))))))))), ?_⟩
    refine ⟨_, rfl, rd_ix 0 hnl rfl ?_⟩
    refine ⟨_, rfl, rd_ix 1 hnl rfl ?_⟩
    refine ⟨_, rfl, _, rfl, L, s', m, R, rfl, _, rfl, ?_⟩
    cases hx : s'.meetings[m]? with
    | none =>
      refine iteT ?_
      exact ⟨(show 1 ≤ sizeLine by decide), fun q hq => fin k (Stp.refl R) hq [-3] (known_none hx)⟩
    | some x =>
      refine iteF ?_
      have st : Cl06.step s' (.press p m) = match Cl06.copyOf s' p m with
        | none => (s', [-4])
        | some c => if c.count = 0 ∨ c.answer = 0 then (s', [-2]) else (Cl06.send s' [Cl06.reply x p m c], [(c.count : Int)]) := known_some hx
      refine ⟨_, rfl, _, dw, _, rfl, hw, rfl, _, rfl, _, rfl, L, s', p, m, R, rfl, fun H1 sm => ⟨fun c hc => ?_, fun hn => ?_⟩⟩
      · rw [hc] at st
        have S0 := R.laid sm
        have R1 := S0.rep
        obtain ⟨dc, hc1⟩ := R1.copy hc
        obtain ⟨hh, dv, hv⟩ := R1.wrd _ _ _ hc
        refine ⟨_, rfl, rfl, _, rfl, ?_⟩
        refine iteF ?_
        refine ⟨_, rfl, rd_fld hc1 T.cl_c T.n_c_answer rfl ⟨rfl, _, rfl, ?_⟩⟩
        by_cases ea : c.answer = 0
        · rw [show decide (vN c.answer = V.int 0) = true by rw [ea]; rfl]
          refine iteT ?_
          exact ⟨(show 1 ≤ sizeLine by decide), fun q hq => fin k S0 hq [-2] (st.trans (if_pos (.inr ea)))⟩
        · rw [show decide (vN c.answer = V.int 0) = false by rw [decide_eq_false_iff_not]; intro q; injection q with q; omega]
          refine iteF ?_
          have st := st.trans (if_neg (by rintro (q | q); · exact ea (R.good.cnt p m c hc q)
                                          · exact ea q))
          obtain ⟨dw2, hw2⟩ := R1.world
          obtain ⟨dm2, hm2⟩ := R1.meet hx
          have hlm2 := R1.lm
          have hat := meetsV_at (L := L) (lt_some hx)
          refine ⟨_, rfl, _, dw2, _, rfl, hw2, rfl, _, rfl, rd_fld hw2 T.cl_o T.n_o_meetings rfl ⟨_, rfl, rd_ix m hlm2 hat ⟨_, rfl, _, rfl, fun y dy hy hdy ny => ?_⟩⟩⟩
          have nn : ∀ b o, H1 b = some o → b ≠ y ∧ b ≠ dy := fun b o e => ⟨ne_of_none e hy, ne_of_none e hdy⟩
          have kp : ∀ b o, H1 b = some o → upd (upd H1 dy (.own y)) y (.ins C.a dy []) b = some o := fun b o e => up (up e (nn b o e).2) (nn b o e).1
          refine ⟨y, dy, _, dm2, _, _, dc, _, dv, m, p, hh, x, c, rfl, upd_same, kp _ _ hm2, kp _ _ hc1, kp _ _ hv, rfl, ?_⟩
          rw [upd_upd]
          have s2 : Same H1 (upd (upd H1 dy (.own y)) y (.ins C.a dy (af (Cl06.reply x p m c)))) := fun b o e => up (up e (nn b o e).2) (nn b o e).1
          have S2 := R1.laid s2
          refine ⟨L, _, y, Cl06.reply x p m c, S2.rep, rfl, .inr ⟨rfl, dy, upd_same⟩, ⟨lt_some hx, fun z => by cases z⟩, fun H3 la S3 => ?_⟩
          have hd3 : Cl06.copyOf (Cl06.send s' [Cl06.reply x p m c]) p m = some c := hc
          obtain ⟨dc3, hc3⟩ := S3.rep.copy hd3
          have hc3 : H3 (L.ca p m) = _ := hc3
          refine ⟨_, rfl, rd_fld hc3 T.cl_c T.n_c_given rfl ⟨(show 1 ≤ sizeLine by decide), fun q hq => ?_⟩⟩
          exact fin k ((S0.trans S2).trans S3) hq [(c.count : Int)] st
      · rw [hn] at st
        have S0 := R.laid sm
        refine ⟨_, rfl, rfl, _, rfl, ?_⟩
        refine iteT ?_
        exact ⟨(show 1 ≤ sizeLine by decide), fun q hq => fin k S0 hq [-4] st⟩
theorem ok_show_copy (T : Txt K mg C) (U : Env K mg C A) : FnOk P w K mg base CX0 2 A.f_show_copy A.d_show_copy ["world", "numbers"] (sp_call C D14) := by
  refine U.F_show_copy.ok sc_show_copy (fun vs H Q E h => ?_) (fun cdv A' outer s H vs Q E hr h => ?_)
  · obtain ⟨_, _, _, _, _, _, rfl, _⟩ := h
    rfl
  · obtain ⟨L, s', nl, ns, c, R, rfl, hnl, nf, ⟨p, m, rfl, rfl⟩, k⟩ := h
    obtain ⟨dw, hw⟩ := R.world
    refine ⟨_, (pss_cons (ps_if (pt_not (pt_val (pe_call (ok_is_meeting T U) hr rfl U.g_is_meeting U.F_is_meeting.kp U.b_is_meeting .nil pass0 (pa_cons (pv 0) (pa_cons (pe_ix ix_list (pv 1) pe_int (fun _ _ => rfl)) pa_nil))))) (pss_one (ps_ret (pe_lst (pa_cons (pe_ci rfl T.k_NOT_THERE) pa_nil)))) pss_nil) (pss_cons (ps_set (i := 2) sc_show_copy.nd rfl (Or.inl rfl) (pe_meth (pv 0) T.cl_o U.m_World_copy_of (ok_World_copy_of T U) hr U.b_World_copy_of .nil pass0 (pa_cons (pe_ix ix_list (pv 1) pe_int (fun _ _ => rfl)) (pa_cons (pe_ix ix_list (pv 1) pe_int (fun _ _ => rfl)) pa_nil)))) (pss_cons (ps_if (pt_cmpR op_isN (pv 2) pe_non (nomark _)) (pss_one (ps_ret (pe_lst (pa_cons (pe_ci rfl T.k_NOT_SO) pa_nil)))) pss_nil) (pss_cons (ps_set (i := 3) sc_show_copy.nd rfl (Or.inl rfl) (pe_fld (pv 2) rfl)) (pss_cons (ps_set (i := 4) sc_show_copy.nd rfl (Or.inl rfl) (pe_lst (pa_cons (pe_fld (pv 3) rfl) (pa_cons (pe_fld (pv 3) rfl) (pa_cons (pe_fld (pv 3) rfl) (pa_cons (pe_fld (pv 3) rfl) (pa_cons (pe_fld (pv 3) rfl) pa_nil))))))) (pss_one (ps_ret (pe_op op_cat (pv 4) (pe_lst (pa_cons (pe_fld (pv 2) rfl) (pa_cons (pe_fld (pv 2) rfl) (pa_cons (pe_fld (pv 2) rfl) pa_nil)))))))))))), ?_⟩
    refine ⟨_, rfl, _, rfl, rd_ix 1 hnl rfl ⟨L, s', m, R, rfl, _, rfl, ?_⟩⟩
    cases hx : s'.meetings[m]? with
    | none =>
      refine iteT ?_
      exact ⟨(show 1 ≤ sizeLine by decide), fun q hq => fin k (Stp.refl R) hq [-3] (known_none hx)⟩
    | some x =>
      refine iteF ?_
      have st : Cl06.step s' (.copy p m) = (s', match Cl06.copyOf s' p m with
        | none => [-4]
        | some c => Cl06.nums [c.word, c.round, c.time, Cl06.bit c.off, Cl06.bit c.asked, c.count, c.answer] ++ [Cl06.wished c.wish]) := known_some hx
      refine ⟨_, rfl, _, dw, _, rfl, hw, rfl, _, rfl, rd_ix 0 hnl rfl ⟨_, rfl, rd_ix 1 hnl rfl ⟨L, s', p, m, R, rfl, fun H1 sm => ⟨fun c hc => ?_, fun hn => ?_⟩⟩⟩⟩
      · have S0 := R.laid sm
        obtain ⟨dc, hc1⟩ := S0.rep.copy hc
        obtain ⟨hh, dv, hv⟩ := S0.rep.wrd _ _ _ hc
        refine ⟨_, rfl, rfl, _, rfl, ?_⟩
        refine iteF ?_
        refine ⟨_, rfl, rd_fld hc1 T.cl_c T.n_c_word rfl ?_⟩
        refine ⟨_, rfl, rd_fld hv T.cl_w T.n_w_number rfl ⟨_, rfl, rd_fld hv T.cl_w T.n_w_round_no rfl ⟨_, rfl, rd_fld hv T.cl_w T.n_w_time rfl ⟨_, rfl, rd_fld hv T.cl_w T.n_w_off rfl ⟨_, rfl, rd_fld hv T.cl_w T.n_w_asked rfl ⟨(show 5 ≤ sizeLine by decide), fun q hq => ?_⟩⟩⟩⟩⟩⟩
        have hc2 := fun o => up (o := o) hc1 (ne_of_none hc1 hq)
        refine ⟨_, rfl, _, rfl, rd_fld (hc2 _) T.cl_c T.n_c_given rfl ⟨_, rfl, rd_fld (hc2 _) T.cl_c T.n_c_answer rfl ⟨_, rfl, rd_fld (hc2 _) T.cl_c T.n_c_wish rfl ⟨(show 3 ≤ sizeLine by decide), fun r hr => ?_⟩⟩⟩⟩
        refine ⟨q, r, _, _, rfl, rfl, up upd_same (ne_of_none upd_same hr), upd_same, (show 8 ≤ sizeLine by decide), fun z hz => ?_⟩
        have sq := Same.upd' (o := .lst [vN c.word, vN c.round, vN c.time, vB c.off, vB c.asked]) hq
        refine fin k ((S0.trans (S0.rep.laid sq)).trans ((S0.rep.laid sq).rep.laid (Same.upd' hr))) hz (Cl06.nums [c.word, c.round, c.time, Cl06.bit c.off, Cl06.bit c.asked, c.count, c.answer] ++ [Cl06.wished c.wish]) ?_
        rw [st, hc]
      · have S0 := R.laid sm
        refine ⟨_, rfl, rfl, _, rfl, ?_⟩
        refine iteT ?_
        refine ⟨(show 1 ≤ sizeLine by decide), fun q hq => fin k S0 hq [-4] ?_⟩
        rw [st, hn]
theorem wish_val (t : Nat) : (t : Int) - 1 = Cl06.wished (if t = 0 then none else some (t - 1)) := by
  by_cases e : t = 0
  · subst e
    rfl
  · rw [if_neg e]
    show (t : Int) - 1 = ((t - 1 : Nat) : Int)
    omega
theorem ok_give_answer (T : Txt K mg C) (U : Env K mg C A) : FnOk P w K mg base CX0 3 A.f_give_answer A.d_give_answer ["world", "numbers"] (sp_call C D5) := by
  refine U.F_give_answer.ok sc_give_answer (fun vs H Q E h => ?_) (fun cdv A' outer s H vs Q E hr h => ?_)
  · obtain ⟨_, _, _, _, _, _, rfl, _⟩ := h
    rfl
  · obtain ⟨L, s', nl, ns, c, R, rfl, hnl, nf, ⟨p, m, a, t, rfl, rfl⟩, k⟩ := h
    obtain ⟨dw, hw⟩ := R.world
    refine ⟨_, (pss_cons (ps_set (i := 2) sc_give_answer.nd rfl (Or.inl rfl) (pe_ix ix_list (pv 1) pe_int (fun _ _ => rfl))) (pss_cons (ps_set (i := 3) sc_give_answer.nd rfl (Or.inl rfl) (pe_ix ix_list (pv 1) pe_int (fun _ _ => rfl))) (pss_cons (ps_set (i := 4) sc_give_answer.nd rfl (Or.inl rfl) (pe_ix ix_list (pv 1) pe_int (fun _ _ => rfl))) (pss_cons (ps_set (i := 5) sc_give_answer.nd rfl (Or.inl rfl) (pe_op op_sub (pe_ix ix_list (pv 1) pe_int (fun _ _ => rfl)) pe_int)) (pss_cons (ps_if (pt_not (pt_val (pe_call (ok_is_meeting T U) (hr.mono (by decide)) rfl U.g_is_meeting U.F_is_meeting.kp U.b_is_meeting .nil pass0 (pa_cons (pv 0) (pa_cons (pv 3) pa_nil))))) (pss_one (ps_ret (pe_lst (pa_cons (pe_ci rfl T.k_NOT_THERE) pa_nil)))) pss_nil) (pss_cons (ps_if (PW.pt (pw_or (pt_cmpR op_lt (pv 4) (pe_ci rfl T.k_YES) (nomark _)) (pw_or (pt_cmpR op_gt (pv 4) (pe_ci rfl T.k_PERHAPS) (nomark _)) (pw_or1 (pt_cmpR op_gt (pv 5) (pe_ci rfl T.k_LAST_TIME) (nomark _)))))) (pss_one (ps_ret (pe_lst (pa_cons (pe_ci rfl T.k_WRONG) pa_nil)))) pss_nil) (pss_cons (ps_set (i := 6) sc_give_answer.nd rfl (Or.inl rfl) (pe_meth (pv 0) T.cl_o U.m_World_copy_of (ok_World_copy_of T U) (hr.mono (by decide)) U.b_World_copy_of .nil pass0 (pa_cons (pv 2) (pa_cons (pv 3) pa_nil)))) (pss_cons (ps_if (pt_cmpR op_isN (pv 6) pe_non (nomark _)) (pss_one (ps_ret (pe_lst (pa_cons (pe_ci rfl T.k_NOT_SO) pa_nil)))) pss_nil) (pss_cons (ps_if (pt_not (pt_val (pe_meth0 (pv 6) T.cl_c U.m_Copy_invites (ok_Copy_invites T U) (hr.mono (by decide)) U.b_Copy_invites .nil pass0))) (pss_one (ps_ret (pe_lst (pa_cons (pe_ci rfl T.k_OVER) pa_nil)))) pss_nil) (pss_cons (ps_fldaug (pv 6) pe_int in_add) (pss_cons (ps_fld (pv 6) (pv 4) rfl) (pss_cons (ps_fld (pv 6) (pv 5) rfl) (pss_cons (ps_expr (pe_meth (pv 0) T.cl_o U.m_World_send (ok_World_send T U) (hr.mono (by decide)) U.b_World_send .nil pass0 (pa_cons (pe_make U.M_a (ok_Answer_init T U) hr rfl T.mg_a U.b_Answer_init .nil pass0 (pa_cons (pe_ix ix_list (pe_fld (pv 0) rfl) (pv 3) (fun _ _ => rfl)) (pa_cons (pv 2) (pa_cons (pv 6) pa_nil)))) pa_nil))) (pss_one (ps_ret (pe_lst (pa_cons (pe_fld (pv 6) rfl) pa_nil))))))))))))))))), ?_⟩
    refine ⟨_, rfl, rd_ix 0 hnl rfl ?_⟩
    refine ⟨_, rfl, rd_ix 1 hnl rfl ?_⟩
    refine ⟨_, rfl, rd_ix 2 hnl rfl ?_⟩
    refine ⟨_, rfl, rd_ix 3 hnl rfl ⟨_, _, rfl, rfl, ?_⟩⟩
    refine ⟨_, rfl, _, rfl, L, s', m, R, rfl, _, rfl, ?_⟩
    cases hx : s'.meetings[m]? with
    | none =>
      refine iteT ?_
      exact ⟨(show 1 ≤ sizeLine by decide), fun q hq => fin k (Stp.refl R) hq [-3] (known_none hx)⟩
    | some x =>
      refine iteF ?_
      have st : Cl06.step s' (.answer p m a t) = if a < 1 ∨ (3 < a ∨ Cl06.TIME + 1 < t) then (s', [-1]) else match Cl06.copyOf s' p m with
        | none => (s', [-4])
        | some c => if c.off = true ∨ c.asked = false then (s', [-2]) else
          (Cl06.send (Cl06.setCopy s' p m { c with count := c.count + 1, answer := a, wish := if t = 0 then none else some (t - 1) }) [Cl06.reply x p m { c with count := c.count + 1, answer := a, wish := if t = 0 then none else some (t - 1) }], [((c.count + 1 : Nat) : Int)]) := known_some hx
      refine ⟨_, rfl, _, _, rfl, rfl, _, rfl, ?_⟩
      by_cases e1 : a < 1
      · rw [show decide ((a : Int) < 1) = true from decide_eq_true (by omega)]
        refine iteT ?_
        refine iteT ?_
        exact ⟨(show 1 ≤ sizeLine by decide), fun q hq => fin k (Stp.refl R) hq [-1] (st.trans (if_pos (.inl e1)))⟩
      rw [show decide ((a : Int) < 1) = false from decide_eq_false (by omega)]
      refine iteF ?_
      refine ⟨_, rfl, _, _, rfl, rfl, _, rfl, ?_⟩
      by_cases e2 : 3 < a
      · rw [show decide ((3 : Int) < (a : Int)) = true from decide_eq_true (by omega)]
        refine iteT ?_
        refine iteT ?_
        exact ⟨(show 1 ≤ sizeLine by decide), fun q hq => fin k (Stp.refl R) hq [-1] (st.trans (if_pos (.inr (.inl e2))))⟩
      rw [show decide ((3 : Int) < (a : Int)) = false from decide_eq_false (by omega)]
      refine iteF ?_
      refine ⟨_, rfl, _, _, rfl, rfl, _, rfl, ?_⟩
      by_cases e3 : 100000 + 1 < t
      · rw [show decide ((100000 : Int) < (t : Int) - 1) = true from decide_eq_true (by omega)]
        refine iteT ?_
        exact ⟨(show 1 ≤ sizeLine by decide), fun q hq => fin k (Stp.refl R) hq [-1] (st.trans (if_pos (.inr (.inr e3))))⟩
      rw [show decide ((100000 : Int) < (t : Int) - 1) = false from decide_eq_false (by omega)]
      refine iteF ?_
      have st := st.trans (if_neg (by rintro (q | q | q); · exact e1 q
                                      · exact e2 q
                                      · exact e3 q))
      refine ⟨_, rfl, _, dw, _, rfl, hw, rfl, _, rfl, _, rfl, L, s', p, m, R, rfl, fun H1 sm => ⟨fun c hc => ?_, fun hn => ?_⟩⟩
      · rw [hc] at st
        have S0 := R.laid sm
        have R1 := S0.rep
        obtain ⟨dc, hc1⟩ := R1.copy hc
        obtain ⟨hh, dv, hv⟩ := R1.wrd _ _ _ hc
        refine ⟨_, rfl, rfl, _, rfl, ?_⟩
        refine iteF ?_
        refine ⟨_, rfl, _, dc, _, rfl, hc1, rfl, _, dc, _, dv, c, wordOf p m hh c, rfl, hc1, hv, _, rfl, ?_⟩
        show if (!(!c.off && c.asked)) = true then _ else _
        cases eo : c.off with
        | true =>
          refine iteT ?_
          exact ⟨(show 1 ≤ sizeLine by decide), fun q hq => fin k S0 hq [-2] (st.trans (if_pos (.inl eo)))⟩
        | false =>
          cases ea : c.asked with
          | false =>
            refine iteT ?_
            exact ⟨(show 1 ≤ sizeLine by decide), fun q hq => fin k S0 hq [-2] (st.trans (if_pos (.inr ea)))⟩
          | true =>
            refine iteF ?_
            have st := st.trans (if_neg (by rintro (q | q); · rw [eo] at q; cases q
                                            · rw [ea] at q; cases q))
            refine ⟨_, rfl, _, C.c, dc, cf (L.wa p m) c, _, rfl, hc1, T.cl_c, T.n_c_given, rfl, _, _, rfl, rfl, dc, cf (L.wa p m) c, hc1, (show 4 < 1000 by decide), ?_⟩
            refine ⟨_, rfl, _, rfl, st_fld upd_same T.cl_c T.n_c_answer (show 4 < 1000 by decide) ?_⟩
            refine ⟨_, rfl, _, rfl, st_fld upd_same T.cl_c T.n_c_wish (show 4 < 1000 by decide) ?_⟩
            rw [upd_upd, upd_upd]
            obtain ⟨d, ed⟩ : ∃ d : Cl06.Copy, d = { c with count := c.count + 1, answer := a, wish := if t = 0 then none else some (t - 1) } := ⟨_, rfl⟩
            rw [← ed] at st
            obtain ⟨H2, eH2⟩ : ∃ H2, H2 = upd H1 (L.ca p m) (.ins C.c dc (putF "wish" (V.int ((t : Int) - 1)) (putF "answer" (vN a) (putF "given" (V.int ((c.count : Int) + 1)) (cf (L.wa p m) c))))) := ⟨_, rfl⟩
            have S1 : Stp C H1 L s' H2 (L.setWa p m (L.wa p m)) (Cl06.setCopy s' p m d) := by
              refine Stp.copy (wa := L.wa p m) (dw := dv) (hh := hh) T.apart R1 hc (fun z => ?_) (by rw [ed]; exact hv) (fun b o e nb => by rw [eH2]; exact up e nb) ⟨dc, ?_⟩
              · rw [ed] at z
                cases z
              · rw [eH2, upd_same, wish_val, ed]
                rfl
            dsimp only
            rw [← eH2]
            obtain ⟨L1, eL1⟩ : ∃ L1, L1 = L.setWa p m (L.wa p m) := ⟨_, rfl⟩
            have hd1 : Cl06.copyOf (Cl06.setCopy s' p m d) p m = some d := by rw [copyOf_set, if_pos ⟨rfl, rfl⟩]
            rw [← eL1] at S1
            have w1 : L1.w = L.w := by rw [eL1]; rfl
            have m1 : L1.ma m = L.ma m := by rw [eL1]; rfl
            have c1 : L1.ca p m = L.ca p m := by rw [eL1]; rfl
            have l1 : L1.lm = L.lm := by rw [eL1]; rfl
            obtain ⟨dw2, hw2⟩ := S1.rep.world
            have hx2 : (Cl06.setCopy s' p m d).meetings[m]? = some x := hx
            obtain ⟨dm2, hm2⟩ := S1.rep.meet hx2
            obtain ⟨dc2, hc2⟩ := S1.rep.copy hd1
            obtain ⟨hh2, dv2, hv2⟩ := S1.rep.wrd _ _ _ hd1
            have hlm2 := S1.rep.lm
            have hat := meetsV_at (L := L1) (lt_some hx2)
            rw [w1] at hw2
            rw [c1] at hc2
            refine ⟨_, rfl, _, dw2, _, rfl, hw2, rfl, _, rfl, rd_fld hw2 T.cl_o T.n_o_meetings rfl ⟨_, rfl, rd_ix m hlm2 hat ⟨_, rfl, _, rfl, fun y dy hy hdy ny => ?_⟩⟩⟩
            have nn : ∀ b o, H2 b = some o → b ≠ y ∧ b ≠ dy := fun b o e => ⟨ne_of_none e hy, ne_of_none e hdy⟩
            have kp : ∀ b o, H2 b = some o → upd (upd H2 dy (.own y)) y (.ins C.a dy []) b = some o := fun b o e => up (up e (nn b o e).2) (nn b o e).1
            refine ⟨y, dy, _, dm2, _, _, dc2, _, dv2, m, p, hh2, x, d, rfl, upd_same, kp _ _ hm2, kp _ _ hc2, kp _ _ hv2, rfl, ?_⟩
            rw [upd_upd]
            have s2 : Same H2 (upd (upd H2 dy (.own y)) y (.ins C.a dy (af (Cl06.reply x p m d)))) := fun b o e => up (up e (nn b o e).2) (nn b o e).1
            have S2 := S1.rep.laid s2
            refine ⟨L1, _, y, Cl06.reply x p m d, S2.rep, (by rw [w1]; rfl), .inr ⟨rfl, dy, upd_same⟩, ⟨lt_some hx2, fun z => by cases z⟩, fun H3 la S3 => ?_⟩
            have hd3 : Cl06.copyOf (Cl06.send (Cl06.setCopy s' p m d) [Cl06.reply x p m d]) p m = some d := hd1
            obtain ⟨dc3, hc3⟩ := S3.rep.copy hd3
            have hc3 : H3 (L1.ca p m) = _ := hc3
            rw [c1] at hc3
            refine ⟨_, rfl, rd_fld hc3 T.cl_c T.n_c_given rfl ⟨(show 1 ≤ sizeLine by decide), fun q hq => ?_⟩⟩
            refine fin k (((S0.trans S1).trans S2).trans S3) hq [(d.count : Int)] (st.trans ?_)
            rw [ed]
      · rw [hn] at st
        have S0 := R.laid sm
        refine ⟨_, rfl, rfl, _, rfl, ?_⟩
        refine iteT ?_
        exact ⟨(show 1 ≤ sizeLine by decide), fun q hq => fin k S0 hq [-4] st⟩
end
end Cw
end

section
set_option Elab.async false
set_option linter.all false
set_option maxRecDepth 100000
set_option maxHeartbeats 2000000
namespace Cw
open PySem PySem.Spec PyProof.Rows L2
section
variable {C : Cs} {H H1 : Hp} {L L1 : Lay} {s s1 : Cl06.State}
theorem fin' {c : Cl06.Call} {q : Addr} {Q : VK} (k : ∀ H' L' q, Stp C H L s H' L' (Cl06.step s c).1 → H' q = some (.lst ((Cl06.step s c).2.map V.int)) → (∀ b o, H b = some o → ¬ Foot C L s b → b ≠ q) → Q (.ref q) H')
    (S : Stp C H L s H1 L1 s1) (ans : Cl06.Ans) (hq : H1 q = some (.lst (ans.map V.int))) (hn : H q = none) (e : Cl06.step s c = (s1, ans)) : Q (.ref q) H1 := by
  rw [e] at k
  exact k _ L1 q S hq fun b o eb _ => ne_of_none eb hn
theorem nums_len (l : Cl06.Letter) : (Cl06.letterNums l).length ≤ 9 := by
  unfold Cl06.letterNums Cl06.nums
  split <;> simp
theorem flat_len : ∀ ls : List Cl06.Letter, (ls.flatMap Cl06.letterNums).length ≤ 9 * ls.length
  | [] => Nat.le_refl _
  | l :: ls => by
    rw [List.flatMap_cons, List.length_append, List.length_cons]
    have := nums_len l
    have := flat_len ls
    omega
theorem count_yes (x : Cl06.Meeting) : ((ixs (fun g => g.asked) x x.guests.length).filter fun j => (x.guests[j]?).any fun g => g.answer == 1).length = (x.guests.filter fun (g : Cl06.Guest) => g.asked && g.answer == 1).length := by
  rw [← ixs_len]
  unfold ixs
  rw [List.filter_filter]
  congr 1
  apply List.filter_congr
  intro j _
  cases x.guests[j]? with
  | none => rfl
  | some g =>
    show ((g.answer == 1) && g.asked) = (g.asked && g.answer == 1)
    exact Bool.and_comm _ _
end
section
variable {P : Program} {w : World} {K : PySem.W.Frag} {mg : Str → Option Value} {base : Heap} {C : Cs} {A : Ad}
theorem ok_show_letters (T : Txt K mg C) (U : Env K mg C A) : FnOk P w K mg base CX0 2 A.f_show_letters A.d_show_letters ["world", "numbers"] (sp_call C D12) := by
  refine U.F_show_letters.ok sc_show_letters (fun vs H Q E h => ?_) (fun cdv A' outer s H vs Q E hr h => ?_)
  · obtain ⟨_, _, _, _, _, _, rfl, _⟩ := h
    rfl
  · obtain ⟨L, s', nl, ns, c, R, rfl, hnl, nf, ⟨rfl, rfl⟩, k⟩ := h
    obtain ⟨dw, hw⟩ := R.world
    have hll := R.ll
    have hr100 := R.good.room
    refine ⟨_, (pss_cons (ps_set (i := 2) sc_show_letters.nd rfl (Or.inl rfl) (pe_lst (pa_cons (pe_callB call_len_seq rfl T.b_len PySem.boot_len (pa_cons (pe_fld (pv 0) rfl) pa_nil)) pa_nil))) (pss_cons (ps_for PassesOwn.never rfl (pi_list (pe_fld (pv 0) rfl)) (pg_name (i := 3) sc_show_letters.nd rfl (Or.inl rfl)) (pss_one (ps_expr (pe_bm PySem.F.plainAttrs_list PySem.F.slot_list_extend PySem.F.type_list_extend mt_extend (pv 2) (pa_cons (pe_meth0V (pv 3) hr pass0) pa_nil))))) (pss_one (ps_ret (pv 2))))), ?_⟩
    refine ⟨_, rfl, rd_fld hw T.cl_o T.n_o_letters rfl ⟨_, _, rfl, .inl (SqL.of hll), (show 1 ≤ sizeLine by decide), fun q hq => ?_⟩⟩
    have hsq := Same.upd' (o := .lst [V.int ((L.la.map V.ref).length : Int)]) hq
    refine ⟨_, rfl, rd_fld (hsq _ _ hw) T.cl_o T.n_o_letters rfl ⟨_, rfl, ⟨_, SqL.of (hsq _ _ hll)⟩, for_list (K := K) (a := L.ll) (xs := L.la.map V.ref)
      (fun n σ H' => (∃ v : Option V, σ = [some (.ref L.w), some (.ref nl), some (.ref q), v]) ∧ H' q = some (.lst ((((s'.letters.length : Int)) :: (s'.letters.take n).flatMap Cl06.letterNums).map V.int)) ∧ Same H H')
      ⟨⟨none, rfl⟩, ?_, hsq⟩ (fun n σ H' _ ⟨_, _, sm⟩ => SqL.of (sm _ _ hll)) ?_ ?_⟩⟩
    · rw [upd_same, List.length_map, R.llen, List.take_zero]
      rfl
    · rintro n y σ H' hy ⟨⟨v0, rfl⟩, hq', sm⟩
      rw [List.getElem?_map] at hy
      obtain ⟨a, ha, rfl⟩ := Option.map_eq_some_iff.mp hy
      have hlt : n < s'.letters.length := by rw [← R.llen]; exact (List.getElem?_eq_some_iff.mp ha).1
      obtain ⟨l, hl⟩ : ∃ l, s'.letters[n]? = some l := ⟨_, List.getElem?_eq_getElem hlt⟩
      have fine : ∀ (H2 : Hp) (r : Addr), Same H' H2 → H' r = none → H2 r = some (.lst ((Cl06.letterNums l).map V.int)) →
          ∃ l_1 b xs zs, V.ref q = .ref l_1 ∧ [V.ref r] = [.ref b] ∧ H2 l_1 = some (.lst xs) ∧ H2 b = some (.lst zs) ∧ xs.length + zs.length ≤ sizeLine ∧
            ((∃ v : Option V, [some (V.ref L.w), some (V.ref nl), some (V.ref q), some (V.ref a)] = [some (.ref L.w), some (.ref nl), some (.ref q), v]) ∧ upd H2 l_1 (.lst (xs ++ zs)) q = some (.lst ((((s'.letters.length : Int)) :: (s'.letters.take (n + 1)).flatMap Cl06.letterNums).map V.int)) ∧ Same H (upd H2 l_1 (.lst (xs ++ zs)))) := fun H2 r s2 hr2 h2 => by
        refine ⟨q, r, _, _, rfl, rfl, s2 _ _ hq', h2, ?_, ⟨_, rfl⟩, ?_, fun b o e => up (s2 _ _ (sm b o e)) (ne_of_none e hq)⟩
        · rw [List.length_map, List.length_map, List.length_cons]
          have := flat_len (s'.letters.take n)
          rw [List.length_take] at this
          have := nums_len l
          have : 9 * min n s'.letters.length ≤ 900 := by omega
          exact Nat.le_trans (m := 1000) (by omega) (by decide)
        · rw [upd_same, take_snoc' hl, List.flatMap_append, ← List.map_append, List.cons_append]
          simp
      refine ⟨_, rfl, .inl ⟨rfl, _, SqL.of hq'⟩, _, rfl, ?_⟩
      rcases R.lets n a l ha hl with ⟨hk, da, hda⟩ | ⟨hk, da, hda⟩
      · exact ⟨a, C.w, da, _, A.f_Word_row, A.d_Word_row, _, sp_Word_row C, rfl, sm _ _ hda, T.cl_w, U.m_Word_row, ok_Word_row T U, U.b_Word_row, rfl, a, da, l, rfl, sm _ _ hda, hk, fun H2 r s2 hr2 h2 => fine H2 r s2 hr2 h2⟩
      · exact ⟨a, C.a, da, _, A.f_Answer_row, A.d_Answer_row, _, sp_Answer_row C, rfl, sm _ _ hda, T.cl_a, U.m_Answer_row, ok_Answer_row T U, U.b_Answer_row, rfl, a, da, l, rfl, sm _ _ hda, hk, fun H2 r s2 hr2 h2 => fine H2 r s2 hr2 h2⟩
    · rintro σ H' ⟨⟨v0, rfl⟩, hq', sm⟩
      rw [List.length_map, R.llen, List.take_length] at hq'
      exact ⟨_, rfl, fin' k (R.laid sm) _ hq' hq rfl⟩
def guestNums (g : Cl06.Guest) : Cl06.Ans := Cl06.nums [g.who, g.words, Cl06.bit g.asked, g.count, g.answer] ++ [Cl06.wished g.wish]
theorem ok_show_host (T : Txt K mg C) (U : Env K mg C A) : FnOk P w K mg base CX0 2 A.f_show_host A.d_show_host ["world", "numbers"] (sp_call C D13) := by
  refine U.F_show_host.ok sc_show_host (fun vs H Q E h => ?_) (fun cdv A' outer s H vs Q E hr h => ?_)
  · obtain ⟨_, _, _, _, _, _, rfl, _⟩ := h
    rfl
  · obtain ⟨L, s', nl, ns, c, R, rfl, hnl, nf, ⟨m, rfl, rfl⟩, k⟩ := h
    obtain ⟨dw, hw⟩ := R.world
    refine ⟨_, (pss_cons (ps_if (pt_not (pt_val (pe_call (ok_is_meeting T U) hr rfl U.g_is_meeting U.F_is_meeting.kp U.b_is_meeting .nil pass0 (pa_cons (pv 0) (pa_cons (pe_ix ix_list (pv 1) pe_int (fun _ _ => rfl)) pa_nil))))) (pss_one (ps_ret (pe_lst (pa_cons (pe_ci rfl T.k_NOT_THERE) pa_nil)))) pss_nil) (pss_cons (ps_set (i := 2) sc_show_host.nd rfl (Or.inl rfl) (pe_ix ix_list (pe_fld (pv 0) rfl) (pe_ix ix_list (pv 1) pe_int (fun _ _ => rfl)) (fun _ _ => rfl))) (pss_cons (ps_setLc (i := 3) (own := [("guest", 4)]) (g := gName 4) rfl sc_show_host.nd rfl rfl (sw_true rfl rfl rfl (by decide +kernel)) (pi_list (pe_meth0 (pv 2) T.cl_m U.m_Meeting_asked_guests (ok_Meeting_asked_guests T U) hr U.b_Meeting_asked_guests .nil pass0)) (blkOk_by (own := [("guest", 4)]) (N := ["world", "numbers", "meeting", "sayers_of_yes", "guest", "shown"]) (sc := defScope s_show_host) (by decide +kernel)) (fun _ _ _ _ _ => pg_name (i := 4) sc_show_host.nd rfl (Or.inl rfl)) (fun _ _ _ _ _ => pts_one (pt_cmpR op_eq (pe_fldK (K := K) rfl (pv 4) rfl) (pe_ci rfl T.k_YES) (nomark _))) (fun _ _ _ _ _ => (pv 4))) (pss_cons (ps_set (i := 5) sc_show_host.nd rfl (Or.inl rfl) (pe_lst (pa_cons (pe_fld (pv 2) rfl) (pa_cons (pe_fld (pv 2) rfl) (pa_cons (pe_fld (pv 2) rfl) (pa_cons (pe_fld (pv 2) rfl) (pa_cons (pe_callB call_len_seq rfl T.b_len PySem.boot_len (pa_cons (pv 3) pa_nil)) (pa_cons (pe_callB call_len_seq rfl T.b_len PySem.boot_len (pa_cons (pe_fld (pv 2) rfl) pa_nil)) pa_nil)))))))) (pss_cons (ps_for PassesOwn.never rfl (pi_list (pe_fld (pv 2) rfl)) (pg_name (i := 4) sc_show_host.nd rfl (Or.inl rfl)) (pss_one (ps_expr (pe_bm PySem.F.plainAttrs_list PySem.F.slot_list_extend PySem.F.type_list_extend mt_extend (pv 5) (pa_cons (pe_lst (pa_cons (pe_fld (pv 4) rfl) (pa_cons (pe_fld (pv 4) rfl) (pa_cons (pe_fld (pv 4) rfl) (pa_cons (pe_fld (pv 4) rfl) (pa_cons (pe_fld (pv 4) rfl) (pa_cons (pe_fld (pv 4) rfl) pa_nil))))))) pa_nil))))) (pss_one (ps_ret (pv 5)))))))), ?_⟩
    refine ⟨_, rfl, _, rfl, rd_ix 0 hnl rfl ⟨L, s', m, R, rfl, _, rfl, ?_⟩⟩
    cases hx : s'.meetings[m]? with
    | none =>
      refine iteT ?_
      exact ⟨(show 1 ≤ sizeLine by decide), fun q hq => fin k (Stp.refl R) hq [-3] (known_none hx)⟩
    | some x =>
      refine iteF ?_
      obtain ⟨dm, hm⟩ := R.meet hx
      have hgl := R.gl hx
      have h5 := R.good.five hx
      have st : Cl06.step s' (.host m) = (s', Cl06.nums [x.host, x.round, x.time, Cl06.bit x.off, (x.guests.filter fun (g : Cl06.Guest) => g.asked && g.answer == 1).length, x.guests.length] ++ x.guests.flatMap guestNums) := known_some hx
      refine ⟨_, rfl, rd_fld hw T.cl_o T.n_o_meetings rfl ⟨_, rfl, rd_ix 0 hnl rfl (rd_ix m R.lm (meetsV_at (lt_some hx)) ?_)⟩⟩
      have cy := count_yes x
      have il := ixs_le (fun g => g.asked) x x.guests.length
      have hjs : ∀ j ∈ ixs (fun g => g.asked) x x.guests.length, j < x.guests.length := fun j hj => (mem_ixs.mp hj).1
      refine ⟨_, rfl, _, dm, _, rfl, hm, rfl, L, s', m, x, R, hx, rfl, fun D0 hD0 => ⟨D0, rfl, ⟨_, SqL.of upd_same⟩, fun D hD => ?_⟩⟩
      generalize ixs (fun g => g.asked) x x.guests.length = js at *
      obtain ⟨H0, eH0⟩ : ∃ H0, H0 = upd H D0 (.lst (js.map fun j => V.ref (L.ga m j))) := ⟨_, rfl⟩
      have sH0 : Same H H0 := by rw [eH0]; exact Same.upd' hD0
      have hD00 : H0 D0 = some (.lst (js.map fun j => V.ref (L.ga m j))) := by rw [eH0]; exact upd_same
      rw [← eH0] at hD ⊢
      refine lc_list (K := K) (a := D0) (xs := js.map fun j => V.ref (L.ga m j))
        (fun n H' => ∃ acc : List V, H' = upd H0 D (.lst acc) ∧ acc.length = ((js.take n).filter fun j => (x.guests[j]?).any fun g => g.answer == 1).length) ⟨[], rfl, rfl⟩ (fun n H' _ ⟨acc, e, _⟩ => by rw [e]; exact SqL.of (up hD00 (ne_of_none hD00 hD))) ?_ ?_
      · rintro n y H' hy ⟨acc, rfl, hacc⟩
        rw [List.getElem?_map] at hy
        obtain ⟨j, hj, rfl⟩ := Option.map_eq_some_iff.mp hy
        obtain ⟨g, hg⟩ : ∃ g, x.guests[j]? = some g := ⟨_, List.getElem?_eq_getElem (hjs j (List.mem_of_getElem? hj))⟩
        obtain ⟨dg, hga⟩ := R.guest hx hg
        have hga1 := sH0 _ _ hga
        refine ⟨rfl, _, rfl, rd_fld (up hga1 (ne_of_none hga1 hD)) T.cl_g T.n_g_answer rfl ⟨rfl, _, rfl, ?_⟩⟩
        have tk := take_snoc' hj
        by_cases e : g.answer = 1
        · rw [show decide (V.int (g.answer : Int) = V.int 1) = true by rw [e]; rfl]
          refine iteT ⟨_, rfl, acc, upd_same, ?_, acc ++ [V.ref (L.ga m j)], upd_upd, ?_⟩
          · rw [hacc]
            have := List.length_filter_le (fun j => (x.guests[j]?).any fun g => g.answer == 1) (js.take n)
            rw [List.length_take] at this
            exact Nat.lt_of_le_of_lt (m := 5) (by omega) (by decide)
          · rw [tk, List.filter_append, List.length_append, List.length_append, hacc, List.filter_cons, hg]
            rw [if_pos (show ((some g).any fun g => g.answer == 1) = true by show (g.answer == 1) = true; rw [e]; rfl)]
            rfl
        · rw [show decide (V.int (g.answer : Int) = V.int 1) = false by rw [decide_eq_false_iff_not]; intro q; injection q with q; omega]
          refine iteF ⟨acc, rfl, ?_⟩
          rw [tk, List.filter_append, List.length_append, hacc, List.filter_cons, hg]
          rw [if_neg (show ¬ ((some g).any fun g => g.answer == 1) = true by show ¬ (g.answer == 1) = true; simpa using e)]
          rfl
      · rintro H' ⟨acc, rfl, hacc⟩
        rw [List.length_map, List.take_length, cy] at hacc
        have s1 : Same H (upd H0 D (.lst acc)) := sH0.trans (Same.upd' hD)
        have hD1 : upd H0 D (.lst acc) D = some (.lst acc) := upd_same
        generalize upd H0 D (.lst acc) = H1 at s1 hD1 ⊢
        have hm1 := s1 _ _ hm
        have hgl1 := s1 _ _ hgl
        refine ⟨_, rfl, rd_fld hm1 T.cl_m T.n_m_host rfl ⟨_, rfl, rd_fld hm1 T.cl_m T.n_m_round_no rfl ⟨_, rfl, rd_fld hm1 T.cl_m T.n_m_time rfl ⟨_, rfl, rd_fld hm1 T.cl_m T.n_m_off rfl ⟨_, rfl, _, _, rfl, .inl (SqL.of hD1), _, rfl, rd_fld hm1 T.cl_m T.n_m_guests rfl
          ⟨_, _, rfl, .inl (SqL.of hgl1), (show 6 ≤ sizeLine by decide), fun q hq => ?_⟩⟩⟩⟩⟩⟩
        rw [hacc, guestsV_len]
        have s2 : Same H1 (upd H1 q (.lst ((Cl06.nums [x.host, x.round, x.time, Cl06.bit x.off, (x.guests.filter fun (g : Cl06.Guest) => g.asked && g.answer == 1).length, x.guests.length]).map V.int))) := Same.upd' hq
        have hqH : H q = none := s1.free hq
        refine ⟨_, rfl, rd_fld (s2 _ _ hm1) T.cl_m T.n_m_guests rfl ⟨_, rfl, ⟨_, SqL.of (s2 _ _ hgl1)⟩, for_list (K := K) (a := L.gl m) (xs := guestsV L m x.guests.length)
          (fun n σ H' => (∃ v : Option V, σ = [some (.ref L.w), some (.ref nl), some (.ref (L.ma m)), some (.ref D), v, some (.ref q)]) ∧ H' q = some (.lst ((Cl06.nums [x.host, x.round, x.time, Cl06.bit x.off, (x.guests.filter fun (g : Cl06.Guest) => g.asked && g.answer == 1).length, x.guests.length] ++ (x.guests.take n).flatMap guestNums).map V.int)) ∧ Same H1 H')
          ⟨⟨none, rfl⟩, ?_, s2⟩ (fun n σ H' _ ⟨_, _, sm⟩ => SqL.of (sm _ _ hgl1)) ?_ ?_⟩⟩
        · rw [List.take_zero, List.flatMap_nil, List.append_nil]
          exact upd_same
        · rintro n y σ H' hy ⟨⟨v0, rfl⟩, hq', sm⟩
          obtain ⟨hlt, rfl⟩ := guestsV_at hy
          obtain ⟨g, hg⟩ : ∃ g, x.guests[n]? = some g := ⟨_, List.getElem?_eq_getElem hlt⟩
          obtain ⟨dg, hga⟩ := R.guest hx hg
          have hga1 := sm _ _ (s1 _ _ hga)
          refine ⟨_, rfl, .inl ⟨rfl, _, SqL.of hq'⟩, _, rfl, rd_fld hga1 T.cl_g T.n_g_person rfl ⟨_, rfl, rd_fld hga1 T.cl_g T.n_g_words rfl ⟨_, rfl, rd_fld hga1 T.cl_g T.n_g_asked rfl ⟨_, rfl, rd_fld hga1 T.cl_g T.n_g_counted rfl ⟨_, rfl, rd_fld hga1 T.cl_g T.n_g_answer rfl ⟨_, rfl, rd_fld hga1 T.cl_g T.n_g_wish rfl
            ⟨(show 6 ≤ sizeLine by decide), fun r hr2 => ?_⟩⟩⟩⟩⟩⟩⟩
          refine ⟨q, r, _, _, rfl, rfl, up hq' (ne_of_none hq' hr2), upd_same, ?_, ⟨_, rfl⟩, ?_, fun b o e => up (up (sm b o e) (ne_of_none (sm b o e) hr2)) (ne_of_none e hq)⟩
          · have : ∀ l : List Cl06.Guest, (l.flatMap guestNums).length = 6 * l.length := by
              intro l
              induction l with
              | nil => rfl
              | cons a l ih =>
                rw [List.flatMap_cons, List.length_append, List.length_cons, ih]
                show 6 + _ = _
                omega
            rw [List.length_map, List.length_append, this, List.length_take]
            exact Nat.le_trans (m := 100) (by show 6 + 6 * min n x.guests.length + 6 ≤ 100; omega) (by decide)
          · rw [upd_same, take_snoc' hg, List.flatMap_append, ← List.append_assoc, List.map_append (l₂ := [g].flatMap guestNums)]
            simp [guestNums, Cl06.nums]
        · rintro σ H' ⟨⟨v0, rfl⟩, hq', sm⟩
          rw [guestsV_len, List.take_length] at hq'
          exact ⟨_, rfl, fin' k (R.laid (s1.trans sm)) _ hq' hqH st⟩
end
end Cw
end

section
set_option Elab.async false
set_option linter.all false
set_option maxRecDepth 100000
set_option maxHeartbeats 2000000
namespace Cw
open PySem PySem.Spec PyProof.Rows L2
section
theorem dedup_le : ∀ (ns acc : List Int), (ns.foldl step_dedup acc).length ≤ acc.length + ns.length
  | [], acc => Nat.le_refl _
  | n :: ns, acc => by
    rw [List.foldl_cons]
    have := dedup_le ns (step_dedup acc n)
    have : (step_dedup acc n).length ≤ acc.length + 1 := by
      unfold step_dedup
      split
      · omega
      · simp
    rw [List.length_cons]
    omega
theorem dedup_nodup : ∀ (ns acc : List Int), acc.Nodup → ((ns.foldl step_dedup acc).length = acc.length + ns.length ↔ (acc ++ ns).Nodup)
  | [], acc, h => by simp [h]
  | n :: ns, acc, h => by
    rw [List.foldl_cons]
    by_cases e : acc.any (· == n) = true
    · have e1 : step_dedup acc n = acc := by unfold step_dedup; rw [if_pos e]
      rw [e1]
      have := dedup_le ns acc
      constructor
      · intro q
        rw [List.length_cons] at q
        omega
      · intro q
        exfalso
        rw [List.any_eq_true] at e
        obtain ⟨y, hy, ey⟩ := e
        have ey : y = n := by simpa using ey
        subst ey
        have := (List.nodup_append.mp q).2.2 y hy y List.mem_cons_self
        exact this rfl
    · have e1 : step_dedup acc n = acc ++ [n] := by unfold step_dedup; rw [if_neg e]
      have hn : n ∉ acc := fun q => e (List.any_eq_true.mpr ⟨n, q, by simp⟩)
      have h2 : (acc ++ [n]).Nodup := List.nodup_append.mpr ⟨h, by simp, fun a ha b hb q => by simp at hb; subst q; subst hb; exact hn ha⟩
      rw [e1]
      have := dedup_nodup ns (acc ++ [n]) h2
      rw [List.length_append, List.length_singleton, List.append_assoc, List.singleton_append] at this
      rw [List.length_cons, ← this]
      omega
theorem first_nodup (ns : List Int) : (firstOnes ns).length = ns.length ↔ ns.Nodup := by
  have := dedup_nodup ns [] (by simp)
  simpa [firstOnes] using this
theorem distinct_iff : ∀ l : List Nat, Cl06.distinct l = true ↔ l.Nodup
  | [] => by simp [Cl06.distinct]
  | a :: l => by
    rw [Cl06.distinct, Bool.and_eq_true, distinct_iff l, List.nodup_cons]
    simp
/-- may such a meeting be -/
def may (h t : Nat) (ps : List Nat) : Prop := t ≤ 100000 ∧ (∀ q ∈ h :: ps, q < 5) ∧ (h :: ps).Nodup
instance (h t : Nat) (ps : List Nat) : Decidable (may h t ps) := inferInstanceAs (Decidable (_ ∧ _ ∧ _))
theorem may_iff (h t : Nat) (ps : List Nat) : may h t ps ↔ ¬ (Cl06.PEOPLE ≤ h ∨ (Cl06.TIME < t ∨ (ps.any (fun (g : Nat) => decide (Cl06.PEOPLE ≤ g) || g == h) = true ∨ Cl06.distinct ps = false))) := by
  unfold may
  constructor
  · rintro ⟨h1, h2, h3⟩ (q | q | q | q)
    · have := h2 h List.mem_cons_self
      unfold Cl06.PEOPLE at q
      omega
    · unfold Cl06.TIME at q
      omega
    · rw [List.any_eq_true] at q
      obtain ⟨g, hg, q⟩ := q
      rw [Bool.or_eq_true] at q
      rcases q with q | q
      · have := h2 g (List.mem_cons_of_mem _ hg)
        have := of_decide_eq_true q
        unfold Cl06.PEOPLE at this
        omega
      · have q : g = h := by simpa using q
        subst q
        exact (List.nodup_cons.mp h3).1 hg
    · have := (distinct_iff ps).mpr (List.nodup_cons.mp h3).2
      rw [q] at this
      cases this
  · intro q
    have a1 : ¬ 5 ≤ h := fun z => q (.inl z)
    have a2 : ¬ 100000 < t := fun z => q (.inr (.inl z))
    have a3 : ∀ g ∈ ps, g < 5 ∧ g ≠ h := fun g hg => by
      refine ⟨?_, fun z => q (.inr (.inr (.inl (List.any_eq_true.mpr ⟨g, hg, by rw [z]; simp⟩))))⟩
      by_cases z : 5 ≤ g
      · exact absurd (.inr (.inr (.inl (List.any_eq_true.mpr ⟨g, hg, by rw [Bool.or_eq_true]; exact .inl (decide_eq_true z)⟩)))) q
      · omega
    have a4 : ps.Nodup := by
      rw [← distinct_iff]
      cases z : Cl06.distinct ps with
      | true => rfl
      | false => exact absurd (.inr (.inr (.inr z))) q
    refine ⟨by omega, fun g hg => ?_, List.nodup_cons.mpr ⟨fun z => (a3 h z).2 rfl, a4⟩⟩
    rcases List.mem_cons.mp hg with rfl | hg
    · omega
    · exact (a3 g hg).1
theorem nodup_cast {l : List Nat} : (l.map fun (n : Nat) => (n : Int)).Nodup ↔ l.Nodup := by
  rw [List.Nodup, List.pairwise_map]
  constructor
  · intro h
    exact h.imp fun {a b} q e => q (by rw [e])
  · intro h
    exact h.imp fun {a b} q e => q (by omega)
end
section
variable {P : Program} {w : World} {K : PySem.W.Frag} {mg : Str → Option Value} {base : Heap} {C : Cs} {A : Ad}
def sp_may_meet (C : Cs) : Sp := fun vs H Q _ => ∃ (h t : Nat) (gl : Addr) (ps : List Nat), vs = [vN h, vN t, .ref gl] ∧ H gl = some (.lst (ps.map vN)) ∧ ps.length ≤ 10 ∧ ∀ H', Same H H' → Q (.bl (decide (may h t ps))) H'
theorem ok_may_meet (T : Txt K mg C) (U : Env K mg C A) : FnOk P w K mg base CX0 1 A.f_may_meet A.d_may_meet ["host", "time", "guests"] (sp_may_meet C) := by
  refine U.F_may_meet.ok sc_may_meet (fun vs H Q E h => ?_) (fun cdv A' outer s H vs Q E hr h => ?_)
  · obtain ⟨_, _, _, _, rfl, _⟩ := h
    rfl
  · obtain ⟨h, t, gl, ps, rfl, hgl, hps, k⟩ := h
    refine ⟨_, (pss_cons (ps_set (i := 3) sc_may_meet.nd rfl (Or.inl rfl) (pe_op op_cat (pe_lst (pa_cons (pv 0) pa_nil)) (pv 2))) (pss_one (ps_ret (pe_and (pe_cmpR op_le (pv 1) (pe_ci rfl T.k_LAST_TIME) (nomark _)) (pe_and (pe_cmpR op_lt (pe_callB (cr_max rfl) rfl T.b_max (by decide +kernel) (pa_cons (pv 3) pa_nil)) (pe_ci rfl T.k_PEOPLE) (nomark _)) (pe_one (pe_cmpR op_eq (pe_callB call_len_setI rfl T.b_len PySem.boot_len (pa_cons (pe_callTy (call_set_ints hr.hd) rfl T.b_set (by decide +kernel) (pa_cons (pv 3) pa_nil)) pa_nil)) (pe_callB call_len_seq rfl T.b_len PySem.boot_len (pa_cons (pv 3) pa_nil)) (nomark _)))))))), ?_⟩
    refine ⟨_, rfl, (show 1 ≤ sizeLine by decide), fun a ha => ⟨_, rfl, a, gl, _, _, rfl, rfl, upd_same, up hgl (ne_of_none hgl ha), ?_, fun b hb => ?_⟩⟩
    · rw [List.length_map]
      exact Nat.le_trans (m := 11) (by show 1 + ps.length ≤ 11; omega) (by decide)
    have s1 : Same H (upd (upd H a (.lst [vN h])) b (.lst ([vN h] ++ ps.map vN))) := (Same.upd' ha).trans (Same.upd' hb)
    have hb1 : upd (upd H a (.lst [vN h])) b (.lst ([vN h] ++ ps.map vN)) b = some (.lst (((h :: ps).map fun (n : Nat) => (n : Int)).map V.int)) := by
      rw [upd_same, List.map_map]
      rfl
    generalize upd (upd H a (.lst [vN h])) b (.lst ([vN h] ++ ps.map vN)) = H1 at s1 hb1 ⊢
    refine ⟨_, rfl, _, _, rfl, rfl, _, rfl, ?_⟩
    by_cases e1 : t ≤ 100000
    · show if decide ((t : Int) ≤ 100000) = true then _ else _
      rw [show decide ((t : Int) ≤ 100000) = true from decide_eq_true (by omega)]
      refine iteT ?_
      refine ⟨_, rfl, b, _, rfl, SqL.of hb1, (by simp), fun m hm hmax => ⟨_, _, rfl, rfl, _, rfl, ?_⟩⟩
      obtain ⟨z, hz, rfl⟩ := List.mem_map.mp hm
      by_cases e2 : z < 5
      · show if decide ((z : Int) < 5) = true then _ else _
        rw [show decide ((z : Int) < 5) = true from decide_eq_true (by omega)]
        refine iteT ?_
        have e3 : ∀ q ∈ h :: ps, q < 5 := fun q hq => by
          have := hmax (q : Int) (List.mem_map.mpr ⟨q, hq, rfl⟩)
          omega
        refine ⟨_, rfl, b, _, rfl, SqL.of hb1, ?_, fun l hl => ⟨l, _, _, rfl, upd_same, ?_, _, rfl, _, _, rfl, .inl (SqL.of (up hb1 (ne_of_none hb1 hl))), rfl, ?_⟩⟩
        · simp [scanBound]
          omega
        · have := dedup_le ((h :: ps).map fun (n : Nat) => (n : Int)) []
          have : (firstOnes ((h :: ps).map fun (n : Nat) => (n : Int))).length ≤ 11 := by
            unfold firstOnes
            simp at this ⊢
            omega
          omega
        · have : decide (V.int ((firstOnes ((h :: ps).map fun (n : Nat) => (n : Int))).length : Int) = V.int ((((h :: ps).map fun (n : Nat) => (n : Int)).map V.int).length : Int)) = decide (may h t ps) := by
            rw [List.length_map]
            rw [decide_eq_decide]
            constructor
            · intro q
              injection q with q
              have q : (firstOnes ((h :: ps).map fun (n : Nat) => (n : Int))).length = ((h :: ps).map fun (n : Nat) => (n : Int)).length := by omega
              exact ⟨e1, e3, nodup_cast.mp ((first_nodup _).mp q)⟩
            · intro q
              rw [(first_nodup _).mpr (nodup_cast.mpr q.2.2)]
          rw [this]
          exact k _ (s1.trans (Same.upd' hl))
      · show if decide ((z : Int) < 5) = true then _ else _
        rw [show decide ((z : Int) < 5) = false from decide_eq_false (by omega)]
        refine iteF ?_
        have : decide (may h t ps) = false := decide_eq_false fun q => e2 (q.2.1 z hz)
        rw [← this]
        exact k _ s1
    · show if decide ((t : Int) ≤ 100000) = true then _ else _
      rw [show decide ((t : Int) ≤ 100000) = false from decide_eq_false (by omega)]
      refine iteF ?_
      have : decide (may h t ps) = false := decide_eq_false fun q => e1 q.1
      rw [← this]
      exact k _ s1
theorem cut3 (h t n : Nat) (l : List Nat) : cutV ((h :: t :: n :: l).map vN) (some 3) none = l.map vN := by
  unfold cutV
  rw [show (some (3 : Int)) = some ((3 : Nat) : Int) from rfl, HT.sIx_nat, HT.sIx_none]
  simp
  rw [List.take_of_length_le (by simp)]
theorem ok_new_meeting (T : Txt K mg C) (U : Env K mg C A) : FnOk P w K mg base CX0 6 A.f_new_meeting A.d_new_meeting ["world", "numbers"] (sp_call C D0) := by
  refine U.F_new_meeting.ok sc_new_meeting (fun vs H Q E h => ?_) (fun cdv A' outer s H vs Q E hr h => ?_)
  · obtain ⟨_, _, _, _, _, _, rfl, _⟩ := h
    rfl
  · obtain ⟨L, s', nl, ns, c, R, rfl, hnl, nf, ⟨h, t, l, rfl, hl, rfl⟩, k⟩ := h
    obtain ⟨dw, hw⟩ := R.world
    refine ⟨_, (pss_cons (ps_set (i := 2) sc_new_meeting.nd rfl (Or.inl rfl) (pe_ix ix_list (pv 1) pe_int (fun _ _ => rfl))) (pss_cons (ps_set (i := 3) sc_new_meeting.nd rfl (Or.inl rfl) (pe_ix ix_list (pv 1) pe_int (fun _ _ => rfl))) (pss_cons (ps_set (i := 4) sc_new_meeting.nd rfl (Or.inl rfl) (pe_slice sl_list (pv 1) (po_some (pe_ci rfl T.k_AT_GUESTS)) po_none)) (pss_cons (ps_if (pt_not (pt_val (pe_call (ok_may_meet T U) (hr.mono (by decide)) rfl U.g_may_meet U.F_may_meet.kp U.b_may_meet .nil pass0 (pa_cons (pv 2) (pa_cons (pv 3) (pa_cons (pv 4) pa_nil)))))) (pss_one (ps_ret (pe_lst (pa_cons (pe_ci rfl T.k_WRONG) pa_nil)))) pss_nil) (pss_cons (ps_if (pt_cmpR op_eq (pe_callB call_len_seq rfl T.b_len PySem.boot_len (pa_cons (pe_fld (pv 0) rfl) pa_nil)) (pe_ci rfl T.k_MOST_MEETINGS) (nomark _)) (pss_one (ps_ret (pe_lst (pa_cons (pe_ci rfl T.k_FULL) pa_nil)))) pss_nil) (pss_one (ps_ret (pe_lst (pa_cons (pe_meth (pv 0) T.cl_o U.m_World_add_meeting (ok_World_add_meeting T U) hr U.b_World_add_meeting .nil pass0 (pa_cons (pv 2) (pa_cons (pv 3) (pa_cons (pv 4) pa_nil)))) pa_nil))))))))), ?_⟩
    refine ⟨_, rfl, rd_ix 0 hnl rfl ?_⟩
    refine ⟨_, rfl, rd_ix 1 hnl rfl ?_⟩
    refine ⟨_, rfl, _, rfl, nl, _, rfl, SqL.of hnl, fun a ha => ?_⟩
    rw [cut3]
    have S0 : Stp C H L s' (upd H a (.lst (l.map vN))) L s' := R.laid (Same.upd' ha)
    have ea : upd H a (.lst (l.map vN)) a = some (.lst (l.map vN)) := upd_same
    generalize upd H a (.lst (l.map vN)) = H1 at S0 ea ⊢
    refine ⟨_, rfl, _, rfl, _, rfl, h, t, a, l, rfl, ea, hl, fun H2 s2 => ⟨_, rfl, ?_⟩⟩
    have S1 := S0.trans (S0.rep.laid s2)
    have st : Cl06.step s' (.new_ h t l) = if Cl06.PEOPLE ≤ h ∨ (Cl06.TIME < t ∨ (l.any (fun (g : Nat) => decide (Cl06.PEOPLE ≤ g) || g == h) = true ∨ Cl06.distinct l = false)) then (s', [-1]) else if Cl06.MEETINGS ≤ s'.meetings.length then (s', [-5]) else
      (Cl06.tell { s' with meetings := s'.meetings ++ [newM h t l] } s'.meetings.length fun _ => true, [(s'.meetings.length : Int)]) := rfl
    by_cases em : may h t l
    · rw [decide_eq_true em]
      refine iteF ?_
      have st := st.trans (if_neg ((may_iff h t l).mp em))
      have R2 := S1.rep
      obtain ⟨dw2, hw2⟩ := R2.world
      refine ⟨_, rfl, rd_fld hw2 T.cl_o T.n_o_meetings rfl ⟨_, _, rfl, .inl (SqL.of R2.lm), rfl, _, rfl, ?_⟩⟩
      rw [meetsV_len]
      have few := R.good.few
      by_cases e6 : s'.meetings.length = 6
      · rw [show decide (V.int (s'.meetings.length : Int) = V.int 6) = true by rw [e6]; rfl]
        refine iteT ?_
        exact ⟨(show 1 ≤ sizeLine by decide), fun q hq => fin k S1 hq [-5] (st.trans (if_pos (by show 6 ≤ s'.meetings.length; omega)))⟩
      · rw [show decide (V.int (s'.meetings.length : Int) = V.int 6) = false by rw [decide_eq_false_iff_not]; intro q; injection q with q; omega]
        refine iteF ?_
        have st := st.trans (if_neg (by show ¬ 6 ≤ s'.meetings.length; omega))
        have nd := (List.nodup_cons.mp em.2.2)
        refine ⟨_, rfl, _, dw2, _, rfl, hw2, rfl, _, rfl, _, rfl, _, rfl, L, s', h, t, l, a, R2, rfl, s2 _ _ ea, by omega, by omega, nd.2, fun q hq => ⟨em.2.1 q (List.mem_cons_of_mem _ hq), fun z => nd.1 (z ▸ hq)⟩, fun H3 L3 S3 => ⟨(show 1 ≤ sizeLine by decide), fun q hq => ?_⟩⟩
        exact fin k (S1.trans S3) hq [(s'.meetings.length : Int)] st
    · rw [decide_eq_false em]
      refine iteT ?_
      refine ⟨(show 1 ≤ sizeLine by decide), fun q hq => fin k S1 hq [-1] (st.trans (if_pos ?_))⟩
      exact Classical.byContradiction fun z => em ((may_iff h t l).mpr z)
end
end Cw
end

section
set_option Elab.async false
set_option linter.all false
set_option maxRecDepth 100000
set_option maxHeartbeats 2000000
namespace Cw
open PySem PySem.Spec PyProof.Rows L2
section
variable {K : PySem.W.Frag} {C : Cs} {H H' : Hp} {L : Lay} {s : Cl06.State}
theorem rd_ixS {Q : V → Prop} {p : Addr} {xs : List V} {v : V} (j : Nat) (h : SqL K H p xs) (e : xs[j]? = some v) (q : Q v) :
    ∃ p' xs' i' v', V.ref p = .ref p' ∧ V.int (j : Int) = .int i' ∧ SqL K H p' xs' ∧ atI xs' i' = some v' ∧ Q v' := ⟨p, xs, (j : Int), v, rfl, rfl, h, atI_nat e, q⟩
theorem SqL.keepS {a : Addr} {xs : List V} (h : SqL K H a xs) (k : ∀ o, H a = some o → H' a = some o) : SqL K H' a xs := by
  rcases h with (h | ⟨o, h⟩) | h
  · exact .inl (.inl (k _ h))
  · exact .inl (.inr ⟨o, k _ h⟩)
  · exact .inr h
/-- a list beside the world is written -/
theorem Rep.beside (R : Rep C H L s) {b : Addr} {xs : List V} {o : HO} (hb : H b = some (.lst xs)) (nf : ¬ Foot C L s b) : Rep C (upd H b o) L s where
  cells := ⟨fun x c h => (R.cells.at_ x c h).keep fun u e => up e fun q => nf ⟨x, by rw [h]; rfl, q⟩, R.cells.inj⟩
  llen := R.llen
  lets := fun i a l h1 h2 => (R.lets i a l h1 h2).keep fun u e => up e fun q => by
    subst q
    rcases R.lets i a l h1 h2 with ⟨_, dx, z⟩ | ⟨_, dx, z⟩ <;> · rw [hb] at z; cases z
  wrd := fun p m c h => by
    obtain ⟨x, dx, e⟩ := R.wrd p m c h
    exact ⟨x, dx, up e fun q => by rw [q, hb] at e; cases e⟩
  keys := R.keys
  knd := R.knd
  good := R.good
theorem Gd.init : Gd Cl06.init := ⟨by decide, fun i x h => by simp [Cl06.init] at h, fun i x g h => by simp [Cl06.init] at h, by decide, fun l h => by simp [Cl06.init] at h, fun p m c h => by simp [Cl06.init, Cl06.copyOf] at h, fun p m c h => by simp [Cl06.init, Cl06.copyOf] at h⟩
/-- the world at its beginning -/
theorem Rep.init {p dx lm dc ll : Addr} (hp : H p = some (.ins C.o dx (of lm dc ll))) (h1 : H lm = some (.lst [])) (h2 : H dc = some (.dT [])) (h3 : H ll = some (.lst [])) (n : lm ≠ ll) :
    Rep C H ⟨p, lm, dc, ll, fun _ => 0, fun _ => 0, fun _ _ => 0, fun _ _ => 0, fun _ _ => 0, [], []⟩ Cl06.init where
  cells := by
    have e1 : p ≠ lm := ne_of hp h1 (by intro z; cases z)
    have e2 : p ≠ dc := ne_of hp h2 (by intro z; cases z)
    have e3 : p ≠ ll := ne_of hp h3 (by intro z; cases z)
    have e4 : lm ≠ dc := ne_of h1 h2 (by intro z; cases z)
    have e5 : dc ≠ ll := ne_of h2 h3 (by intro z; cases z)
    refine ⟨fun x c h => ?_, fun x y hx hy e => ?_⟩
    · cases x with
      | w => cases h; exact ⟨dx, hp⟩
      | lm => cases h; exact h1
      | dc => cases h; exact h2
      | ll => cases h; exact h3
      | meet i => cases h
      | gl i => cases h
      | guest i j => cases h
      | copy q m => cases h
    · cases x <;> cases y <;> first | rfl | (cases hx; done) | (cases hy; done) | exact absurd e e1 | exact absurd e.symm e1 | exact absurd e e2 | exact absurd e.symm e2 | exact absurd e e3 | exact absurd e.symm e3 | exact absurd e e4 | exact absurd e.symm e4 | exact absurd e e5 | exact absurd e.symm e5 | exact absurd e n | exact absurd e.symm n
  llen := rfl
  lets := fun k a l h => by simp at h
  wrd := fun p m c h => by simp [Cl06.init, Cl06.copyOf] at h
  keys := fun p m => by simp [Cl06.init, Cl06.copyOf]
  knd := by simp
  good := Gd.init
theorem DD_call {op : Nat} (h : op ≤ 15) {ns : List Nat} {c : Cl06.Call} (d : DD op ns c) : DD op ns c := d
theorem calls_cons {f : Nat} {p : Int} {r : List Int} {cs : List (List (List Int))} (h : PyFlat.calls PyCl06.shape f (p :: r) = some cs) : ∃ f' c t cs', PyFlat.call PyCl06.shape (p :: r) = some (c, t) ∧ PyFlat.calls PyCl06.shape f' t = some cs' ∧ cs = c :: cs' := by
  cases f with
  | zero => cases h
  | succ f =>
    unfold PyFlat.calls at h
    cases h1 : PyFlat.call PyCl06.shape (p :: r) with
    | none => rw [h1] at h; cases h
    | some ct =>
      obtain ⟨c, t⟩ := ct
      rw [h1] at h
      dsimp only at h
      cases h2 : PyFlat.calls PyCl06.shape f t with
      | none => rw [h2] at h; cases h
      | some cs' =>
        rw [h2] at h
        cases h
        exact ⟨f, c, t, cs', rfl, h2, rfl⟩
theorem cutM {pre : List Int} {p : Int} {xs : List Nat} {t : List Int} : cutV ((pre ++ p :: (xs.map (fun (n : Nat) => (n : Int)) ++ t)).map V.int) (some ((pre.length : Int) + 1)) (some ((pre.length + 1 + xs.length : Nat) : Int)) = xs.map vN := by
  unfold cutV
  rw [show ((pre.length : Int) + 1) = ((pre.length + 1 : Nat) : Int) by omega, HT.sIx_nat, HT.sIx_nat]
  have hl : ((pre ++ p :: (xs.map (fun (n : Nat) => (n : Int)) ++ t)).map V.int).length = pre.length + 1 + xs.length + t.length := by simp; omega
  rw [hl, Nat.min_eq_left (by omega), Nat.min_eq_left (by omega)]
  have e : (pre ++ p :: (xs.map (fun (n : Nat) => (n : Int)) ++ t)).map V.int = ((pre ++ [p]).map V.int) ++ (xs.map vN ++ t.map V.int) := by simp [List.map_map]
  rw [e, List.drop_left' (by simp)]
  rw [show pre.length + 1 + xs.length - (pre.length + 1) = (xs.map vN).length by rw [List.length_map]; omega, List.take_left']
  rfl
end
section
variable {P : Program} {w : World} {K : PySem.W.Frag} {mg : Str → Option Value} {base : Heap} {C : Cs} {A : Ad}
def SizesOk (K : PySem.W.Frag) (a : Addr) : Prop := ∀ op : Nat, op ≤ 15 → ∃ D t, KDict K a D ∧ valueAt D (op : Int) = some (Value.int (siz op : Int) t)
def sp_end_of_call (K : PySem.W.Frag) : Sp := fun vs H Q _ => ∃ (a : Addr) (pre r t : List Int) (p : Int) (c : List (List Int)) (op : Nat) (xs : List Nat) (cl : Cl06.Call), vs = [.ref a, vN pre.length] ∧ SqL K H a ((pre ++ p :: r).map V.int) ∧ Read p r t c op xs cl ∧ Q (vN (pre.length + 1 + xs.length)) H
theorem ok_end_of_call (T : Txt K mg C) (U : Env K mg C A) (hS : SizesOk K A.t_SIZES) : FnOk P w K mg base CX0 1 A.f_end_of_call A.d_end_of_call ["calls", "start"] (sp_end_of_call K) := by
  refine U.F_end_of_call.ok sc_end_of_call (fun vs H Q E h => ?_) (fun cdv A' outer s H vs Q E hr h => ?_)
  · obtain ⟨_, _, _, _, _, _, _, _, _, rfl, _⟩ := h
    rfl
  · obtain ⟨a, pre, r, t, p, c, op, xs, cl, rfl, ha, rd, k⟩ := h
    obtain ⟨D, tk, kd, hv⟩ := hS op rd.le
    have e0 : ((pre ++ p :: r).map V.int)[pre.length]? = some (vN op) := by
      rw [List.getElem?_map, List.getElem?_append_right (Nat.le_refl _), Nat.sub_self, rd.op_]
      rfl
    refine ⟨_, (pss_cons (ps_set (i := 2) sc_end_of_call.nd rfl (Or.inl rfl) (pe_op op_add (pe_op op_add (pv 1) pe_int) (pe_kget (pe_glob (v := .ref A.t_SIZES) rfl U.g_SIZES rfl) (pe_ix ix_list (pv 0) (pv 1) (fun _ _ => rfl)) (fun _ _ => rfl)))) (pss_cons (ps_if (pt_cmpR op_eq (pe_ix ix_list (pv 0) (pv 1) (fun _ _ => rfl)) (pe_ci rfl T.k_NEW) (nomark _)) (pss_one (ps_aug (i := 2) sc_end_of_call.nd rfl (Or.inl rfl) (pe_ix ix_list (pv 0) (pe_op op_add (pv 1) (pe_ci rfl T.k_AT_GUESTS)) (fun _ _ => rfl)) ip_add)) pss_nil) (pss_one (ps_ret (pv 2))))), ?_⟩
    refine ⟨_, rfl, _, _, rfl, rfl, _, rfl, _, rfl, rd_ixS pre.length ha e0 ⟨A.t_SIZES, D, (op : Int), _, .int (siz op : Int), rfl, rfl, kd, hv, ⟨tk, rfl⟩, _, _, rfl, rfl, ?_⟩⟩
    refine ⟨_, rfl, _, rfl, rd_ixS pre.length ha e0 ⟨rfl, _, rfl, ?_⟩⟩
    by_cases e : op = 0
    · subst e
      refine iteT ?_
      obtain ⟨h, t', l, e1, _, _⟩ := rd.dd
      have e3 : ((pre ++ p :: r).map V.int)[pre.length + 3]? = some (vN l.length) := by
        rw [List.getElem?_map, List.getElem?_append_right (by omega), show pre.length + 3 - pre.length = 3 by omega, rd.split, e1]
        rfl
      have hat := atI_nat e3
      rw [show ((pre.length + 3 : Nat) : Int) = (pre.length : Int) + 3 by omega] at hat
      refine ⟨_, rfl, _, rfl, _, rfl, _, _, rfl, rfl, a, _, _, vN l.length, rfl, rfl, ha, hat, _, _, rfl, rfl, ?_⟩
      · refine ⟨_, rfl, ?_⟩
        have : (pre.length : Int) + 1 + (siz 0 : Int) + (l.length : Int) = ((pre.length + 1 + xs.length : Nat) : Int) := by
          rw [e1]
          show (pre.length : Int) + 1 + 3 + (l.length : Int) = ((pre.length + 1 + (l.length + 1 + 1 + 1) : Nat) : Int)
          omega
        show Q (V.int ((pre.length : Int) + 1 + (siz 0 : Int) + (l.length : Int))) H
        rw [this]
        exact k
    · rw [show decide (vN op = V.int 0) = false by rw [decide_eq_false_iff_not]; intro q; injection q with q; omega]
      refine iteF ?_
      refine ⟨_, rfl, ?_⟩
      have := rd.size e
      show Q (V.int ((pre.length : Int) + 1 + (siz op : Int))) H
      rw [show (pre.length : Int) + 1 + (siz op : Int) = ((pre.length + 1 + xs.length : Nat) : Int) by omega]
      exact k
end
end Cw
end

section
set_option Elab.async false
set_option linter.all false
set_option maxRecDepth 100000
set_option maxHeartbeats 2000000
namespace Cw
open PySem PySem.Spec PyProof.Rows L2
section
variable {P : Program} {w : World} {K : PySem.W.Frag} {mg : Str → Option Value} {base : Heap} {C : Cs} {A : Ad}
def CallsOk (P : Program) (w : World) (K : PySem.W.Frag) (mg : Str → Option Value) (base : Heap) (C : Cs) (k : Nat) (a : Addr) : Prop := ∀ op : Nat, op ≤ 15 → ∃ D f fd ps, KDict K a D ∧ valueAt D (op : Int) = some (Value.ref f) ∧ FnOk P w K mg base CX0 k f fd ps (sp_call C (DD op)) ∧ PySem.W.keepIn K (.ref f) = true ∧ Binds K fd ps []
/-- answers: a list of calls is handed in, the list that is due comes out -/
def sp_answers (K : PySem.W.Frag) : Sp := fun vs H Q _ => ∃ (a : Addr) (ns : List Int), vs = [.ref a] ∧ SqL K H a (ns.map V.int) ∧ (∀ z ∈ ns, 0 ≤ z) ∧ PyCl06.answers_asked ns = true ∧ ∀ (H' : Hp) (p : Addr), H' p = some (.lst ((PyCl06.answers ns).map V.int)) → Q (.ref p) H'
theorem told_cons (a : List Int) (l : List (List Int)) : PyFlat.told (a :: l) = (a.length : Int) :: (a ++ PyFlat.told l) := by
  unfold PyFlat.told
  rw [List.flatMap_cons]
  rfl
theorem ok_answers (T : Txt K mg C) (U : Env K mg C A) (hS : SizesOk K A.t_SIZES) (hC : CallsOk P w K mg base C 6 A.t_CALLS) : FnOk P w K mg base CX0 7 A.f_answers A.d_answers ["calls"] (sp_answers K) := by
  refine U.F_answers.ok sc_answers (fun vs H Q E h => ?_) (fun cdv A' outer s H vs Q E hr h => ?_)
  · obtain ⟨_, _, rfl, _⟩ := h
    rfl
  · obtain ⟨a, ns, rfl, ha, hnn, hask, k⟩ := h
    obtain ⟨raw, hraw, hall, hshort, hans⟩ : ∃ raw, PyFlat.calls PyCl06.shape ns.length ns = some raw ∧ (∀ c ∈ raw, Cl06Neutral.asked1 (PyCl06.whole c) = true) ∧ (PyCl06.answers ns).length ≤ 10000000 ∧ PyCl06.answers ns = PyFlat.told (PyFlat.played Cl06Neutral.step Cl06Neutral.start (raw.map PyCl06.whole)) := by
      have hask' := hask
      unfold PyCl06.answers_asked at hask
      cases h : PyFlat.calls PyCl06.shape ns.length ns with
      | none => rw [h] at hask; cases hask
      | some raw =>
        rw [h] at hask
        dsimp only at hask
        rw [Bool.and_eq_true, Bool.and_eq_true, Bool.and_eq_true, Bool.and_eq_true] at hask
        obtain ⟨⟨⟨⟨_, _⟩, _⟩, h4⟩, h5⟩ := hask
        unfold Cl06Neutral.asked at h4
        rw [Bool.and_eq_true, Bool.and_eq_true] at h4
        refine ⟨raw, rfl, fun c hc => ?_, of_decide_eq_true h5, ?_⟩
        · exact List.all_eq_true.mp h4.2.2 _ (List.mem_map.mpr ⟨c, hc, rfl⟩)
        · unfold PyCl06.answers PyCl06.calls
          rw [h]
    refine ⟨_, (pss_cons (ps_set (i := 1) sc_answers.nd rfl (Or.inl rfl) (pe_make0 U.M_o (ok_World_init T U) (hr.mono (by decide)) rfl T.mg_o U.b_World_init .nil pass0)) (pss_cons (ps_set (i := 2) sc_answers.nd rfl (Or.inl rfl) (pe_lst pa_nil)) (pss_cons (ps_set (i := 3) sc_answers.nd rfl (Or.inl rfl) pe_int) (pss_cons (ps_while PassesOwn.never (pt_cmpR op_lt (pv 3) (pe_callB call_len_seq rfl T.b_len PySem.boot_len (pa_cons (pv 0) pa_nil)) (nomark _)) (pss_cons (ps_set (i := 4) sc_answers.nd rfl (Or.inl rfl) (pe_call (ok_end_of_call T U hS) (hr.mono (by decide)) rfl U.g_end_of_call U.F_end_of_call.kp U.b_end_of_call .nil pass0 (pa_cons (pv 0) (pa_cons (pv 3) pa_nil)))) (pss_cons (ps_set (i := 5) sc_answers.nd rfl (Or.inl rfl) (pe_kget (pe_glob (v := .ref A.t_CALLS) rfl U.g_CALLS rfl) (pe_ix ix_list (pv 0) (pv 3) (fun _ _ => rfl)) (fun _ _ => rfl))) (pss_cons (ps_set (i := 6) sc_answers.nd rfl (Or.inl rfl) (pe_callV 5 rfl (Or.inl rfl) hr pass0 (pa_cons (pv 1) (pa_cons (pe_slice sl_list (pv 0) (po_some (pe_op op_add (pv 3) pe_int)) (po_some (pv 4))) pa_nil)))) (pss_cons (ps_expr (pe_bm PySem.F.plainAttrs_list PySem.F.slot_list_append PySem.F.type_list_append mt_append (pv 2) (pa_cons (pe_callB call_len_seq rfl T.b_len PySem.boot_len (pa_cons (pv 6) pa_nil)) pa_nil))) (pss_cons (ps_expr (pe_bm PySem.F.plainAttrs_list PySem.F.slot_list_extend PySem.F.type_list_extend mt_extend (pv 2) (pa_cons (pv 6) pa_nil))) (pss_one (ps_set (i := 3) sc_answers.nd rfl (Or.inl rfl) (pv 4))))))))) (pss_one (ps_ret (pv 2))))))), ?_⟩
    refine fun y dy hy hdy ny => ⟨y, dy, rfl, upd_same, fun H1 lm dc ll g1 g2 g3 g4 g5 g6 g7 g8 g9 => ⟨rfl, ?_⟩⟩
    have s1 : Same H H1 := Same.made hy hdy g6
    have s0 : Same H (upd (upd H dy (.own y)) y (.ins C.o dy [])) := fun b o e => up (up e (ne_of_none e hdy)) (ne_of_none e hy)
    have R1 := Rep.init (C := C) g1 g2 g3 g4 g5
    obtain ⟨L0, eL0⟩ : ∃ L0 : Lay, L0 = ⟨y, lm, dc, ll, fun _ => 0, fun _ => 0, fun _ _ => 0, fun _ _ => 0, fun _ _ => 0, [], []⟩ := ⟨_, rfl⟩
    rw [← eL0] at R1
    have w0 : L0.w = y := by rw [eL0]
    have na0 : ∀ o, H a = some o → ¬ Foot C L0 Cl06.init a := fun o eo ⟨x, hx, ex⟩ => by
      have hne : H (addr L0 x) = none := by
        rw [eL0] at hx ⊢
        cases x with
        | w => exact hy
        | lm => exact s0.free g7
        | dc => exact s0.free g8
        | ll => exact s0.free g9
        | meet i => cases hx
        | gl i => cases hx
        | guest i j => cases hx
        | copy q m => cases hx
      rw [ex, eo] at hne
      cases hne
    refine ⟨(show 0 ≤ sizeLine by decide), fun gb hgb => ?_⟩
    have R2 : Rep C (upd H1 gb (.lst [])) L0 Cl06.init := R1.same (Same.upd' hgb)
    have s2 : Same H (upd H1 gb (.lst [])) := s1.trans (Same.upd' hgb)
    have nf2 : ¬ Foot C L0 Cl06.init gb := R1.fresh hgb
    have e2 : upd H1 gb (.lst []) gb = some (.lst []) := upd_same
    generalize upd H1 gb (.lst []) = H2 at R2 s2 e2 ⊢
    have gba : ∀ o, H a = some o → a ≠ gb := fun o eo => ne_of_none (s1 _ _ eo) hgb
    refine ⟨fun m σ H' => ∃ (pre rest : List Int) (L : Lay) (st : Cl06.State) (cs : List (List (List Int))) (f : Nat) (out : List Int) (v4 v5 v6 : Option V), m = rest.length ∧ ns = pre ++ rest ∧ σ = [some (.ref a), some (.ref L.w), some (.ref gb), some (vN pre.length), v4, v5, v6] ∧ Rep C H' L st ∧
        H' gb = some (.lst (out.map V.int)) ∧ ¬ Foot C L st gb ∧ (∀ o, H a = some o → H' a = some o ∧ ¬ Foot C L st a) ∧ PyFlat.calls PyCl06.shape f rest = some cs ∧ (∀ c ∈ cs, Cl06Neutral.asked1 (PyCl06.whole c) = true) ∧
        PyCl06.answers ns = out ++ PyFlat.told (PyFlat.played Cl06Neutral.step st (cs.map PyCl06.whole)),
      ⟨ns.length, [], ns, L0, Cl06.init, raw, ns.length, [], none, none, none, rfl, rfl, by rw [w0]; rfl, R2, e2, nf2, fun o eo => ⟨s2 _ _ eo, na0 o eo⟩, hraw, hall, hans⟩, ?_⟩
    rintro m σ H' ⟨pre, rest, L, st, cs, f, out, v4, v5, v6, rfl, hns, rfl, R, egb, nfg, hka, hcs, hasked, hout⟩
    have ha' : SqL K H' a (ns.map V.int) := SqL.keepS ha fun o eo => (hka o eo).1
    refine ⟨_, rfl, _, rfl, a, _, rfl, .inl ha', _, _, rfl, rfl, _, rfl, ?_⟩
    rw [List.length_map]
    have hshort' : out.length + (PyFlat.told (PyFlat.played Cl06Neutral.step st (cs.map PyCl06.whole))).length ≤ 10000000 := by
      rw [hout, List.length_append] at hshort
      exact hshort
    cases rest with
    | nil =>
      rw [show decide ((pre.length : Int) < (ns.length : Int)) = false from decide_eq_false (by rw [hns, List.append_nil]; omega)]
      refine iteF ?_
      refine ⟨_, rfl, k H' gb ?_⟩
      have : cs = [] := by
        cases f with
        | zero => cases hcs; rfl
        | succ f => cases hcs; rfl
      subst this
      rw [egb, hout]
      show _ = some (HO.lst ((out ++ []).map V.int))
      rw [List.append_nil]
    | cons p r =>
      rw [show decide ((pre.length : Int) < (ns.length : Int)) = true from decide_eq_true (by rw [hns, List.length_append, List.length_cons]; omega)]
      refine iteT ?_
      obtain ⟨f', c, t, cs', hc1, hc2, rfl⟩ := calls_cons hcs
      obtain ⟨op, xs, cl, rd⟩ := read_call hc1 (hasked c List.mem_cons_self) fun z hz => hnn z (by rw [hns]; exact List.mem_append_right _ (List.mem_cons_of_mem _ hz))
      have hstep : Cl06Neutral.step st (PyCl06.whole c) = Cl06.step st cl := by
        unfold Cl06Neutral.step
        rw [rd.call]
      refine ⟨fun σ' H'' => ∃ (L' : Lay) (v4 v5 v6 : Option V), σ' = [some (.ref a), some (.ref L'.w), some (.ref gb), some (vN (pre.length + 1 + xs.length)), v4, v5, v6] ∧ Rep C H'' L' (Cl06.step st cl).1 ∧ H'' gb = some (.lst ((out ++ ((Cl06.step st cl).2.length : Int) :: (Cl06.step st cl).2).map V.int)) ∧
          ¬ Foot C L' (Cl06.step st cl).1 gb ∧ (∀ o, H a = some o → H'' a = some o ∧ ¬ Foot C L' (Cl06.step st cl).1 a), ?_, ?_⟩
      · rintro σ' H'' ⟨L', v4, v5, v6, rfl, R', egb', nfg', hka'⟩
        refine ⟨t.length, ?_, pre ++ p :: xs.map (fun (n : Nat) => (n : Int)), t, L', (Cl06.step st cl).1, cs', f', _, v4, v5, v6, rfl, ?_, ?_, R', egb', nfg', hka', hc2, fun c' hc' => hasked c' (List.mem_cons_of_mem _ hc'), ?_⟩
        · rw [rd.split, List.length_cons, List.length_append]
          omega
        · rw [hns, rd.split, List.append_assoc, List.cons_append]
        · rw [List.length_append, List.length_cons, List.length_map]
          rw [show pre.length + 1 + xs.length = pre.length + (xs.length + 1) by omega]
        · rw [hout, List.map_cons]
          show out ++ PyFlat.told ((Cl06Neutral.step st (PyCl06.whole c)).2 :: PyFlat.played Cl06Neutral.step (Cl06Neutral.step st (PyCl06.whole c)).1 (cs'.map PyCl06.whole)) = _
          rw [hstep, told_cons, List.append_assoc, List.cons_append]
      · have e0 : (ns.map V.int)[pre.length]? = some (vN op) := by
          rw [hns, List.getElem?_map, List.getElem?_append_right (Nat.le_refl _), Nat.sub_self, rd.op_]
          rfl
        obtain ⟨D, fn, fd, ps, kd, hv, fok, kp, bd⟩ := hC op rd.le
        refine ⟨_, rfl, _, rfl, a, pre, r, t, p, c, op, xs, cl, rfl, (by rw [← hns]; exact ha'), rd, ?_⟩
        refine ⟨_, rfl, _, rfl, rd_ixS pre.length ha' e0 ⟨A.t_CALLS, D, (op : Int), _, .ref fn, rfl, rfl, kd, hv, rfl, ?_⟩⟩
        refine ⟨fn, fd, ps, _, rfl, fok, kp, bd, _, rfl, _, rfl, _, rfl, _, _, rfl, rfl, _, rfl, _, rfl, _, rfl, a, _, rfl, ha', fun q hq => ?_⟩
        have ecut : cutV (ns.map V.int) (some ((pre.length : Int) + 1)) (some ((pre.length + 1 + xs.length : Nat) : Int)) = xs.map vN := by
          rw [hns, rd.split]
          exact cutM
        dsimp only
        rw [ecut]
        have S0 : Stp C H' L st (upd H' q (.lst (xs.map vN))) L st := R.laid (Same.upd' hq)
        have eq1 : upd H' q (.lst (xs.map vN)) q = some (.lst (xs.map vN)) := upd_same
        generalize upd H' q (.lst (xs.map vN)) = H3 at S0 eq1 ⊢
        refine ⟨L, st, q, xs, cl, S0.rep, rfl, eq1, R.fresh hq, rd.dd, fun H4 L4 r4 S1 er hr4 => ?_⟩
        have S := S0.trans S1
        obtain ⟨egb4, nfg4⟩ := S.hold egb nfg
        have egb3 := (S0.hold egb nfg).1
        have nr : gb ≠ r4 := hr4 gb _ egb3 nfg
        have lens := told_cons (Cl06.step st cl).2 (PyFlat.played Cl06Neutral.step (Cl06.step st cl).1 (cs'.map PyCl06.whole))
        have hb : out.length + ((Cl06.step st cl).2.length + 1) ≤ 10000000 := by
          have h1 : PyFlat.told (PyFlat.played Cl06Neutral.step st ((c :: cs').map PyCl06.whole)) = ((Cl06.step st cl).2.length : Int) :: ((Cl06.step st cl).2 ++ PyFlat.told (PyFlat.played Cl06Neutral.step (Cl06.step st cl).1 (cs'.map PyCl06.whole))) := by
            rw [← lens, List.map_cons]
            show PyFlat.told ((Cl06Neutral.step st (PyCl06.whole c)).2 :: PyFlat.played Cl06Neutral.step (Cl06Neutral.step st (PyCl06.whole c)).1 (cs'.map PyCl06.whole)) = _
            rw [hstep]
          rw [h1, List.length_cons, List.length_append] at hshort'
          omega
        have big : 10000000 < sizeLine := by decide
        refine ⟨_, rfl, .inl ⟨rfl, _, SqL.of egb4⟩, _, rfl, r4, _, rfl, .inl (SqL.of er), gb, _, _, rfl, rfl, egb4, ?_, ?_⟩
        · rw [List.length_map]
          omega
        rw [List.length_map]
        have R5 : Rep C (upd H4 gb (.lst (out.map V.int ++ [V.int ((Cl06.step st cl).2.length : Int)]))) L4 (Cl06.step st cl).1 := S.rep.beside egb4 nfg4
        have egb5 : upd H4 gb (.lst (out.map V.int ++ [V.int ((Cl06.step st cl).2.length : Int)])) gb = some (.lst (out.map V.int ++ [V.int ((Cl06.step st cl).2.length : Int)])) := upd_same
        have er5 : upd H4 gb (.lst (out.map V.int ++ [V.int ((Cl06.step st cl).2.length : Int)])) r4 = _ := up er nr.symm
        have hka5 : ∀ o, H a = some o → upd H4 gb (.lst (out.map V.int ++ [V.int ((Cl06.step st cl).2.length : Int)])) a = some o ∧ ¬ Foot C L4 (Cl06.step st cl).1 a := fun o eo => by
          obtain ⟨h1, h2⟩ := hka o eo
          obtain ⟨h3, h4⟩ := S.hold h1 h2
          exact ⟨up h3 (gba o eo), h4⟩
        generalize upd H4 gb (.lst (out.map V.int ++ [V.int ((Cl06.step st cl).2.length : Int)])) = H5 at R5 egb5 er5 hka5 ⊢
        refine ⟨_, rfl, .inl ⟨rfl, _, SqL.of egb5⟩, _, rfl, gb, r4, _, _, rfl, rfl, egb5, er5, ?_, ?_⟩
        · rw [List.length_append, List.length_map, List.length_map, List.length_singleton]
          omega
        refine ⟨_, rfl, L4, _, _, _, (by rw [S.wd]; rfl), R5.beside egb5 nfg4, ?_, nfg4, fun o eo => ⟨up (hka5 o eo).1 (gba o eo), (hka5 o eo).2⟩⟩
        rw [upd_same, List.map_append, List.map_cons, List.append_assoc]
        rfl
end
end Cw
end

section
set_option Elab.async false
set_option linter.all false
set_option maxRecDepth 100000
set_option maxHeartbeats 2000000
namespace Cw
open PySem PySem.Spec PyProof.Rows L2
section
variable {K : PySem.W.Frag} {mg : Str → Option Value} {h : Heap} {C f : Addr} {x qual : Str} {st : Stmt} {oc : Value} {od an : Option Addr} {osl : Array (Option Value)} {kV doc pm cdv ct : Value}
theorem mk_cls (X : K.In h) (G : h.Ns mainGlobals mg) (a : PySem.W.nsIn K mainGlobals x = some (some (.ref C))) (pg : PySem.W.plainGet K C Str.empty = true) (hd : PySem.W.hasDictIn K C = true) (po : PySem.W.plainOver K C = true) (sa : PySem.W.findIn K (.ref C) "__setattr__" = some (some (.builtin "object.__setattr__"))) (mk : PySem.W.makesIn K C = true) (kc : PySem.W.keepIn K (.ref C) = true) :
    Cls K C ∧ mg x = some (.ref C) ∧ (PySem.W.makesIn K C = true ∧ PySem.W.keepIn K (.ref C) = true) := ⟨⟨pg, hd, po, sa⟩, PySem.W.mg_of X G a, mk, kc⟩
theorem mk_init (m : PySem.W.makesIn K C = true ∧ PySem.W.keepIn K (.ref C) = true) (a : PySem.W.findIn K (.ref C) "__init__" = some (some (.ref f))) (i : PySem.W.isFn K (.ref f) = true)
    (l : K.lookup f = some ⟨oc, od, .func (PySem.W.fnOf x qual (defArgs st) (defBody st) (defScope st) .none kV doc pm an cdv ct), osl⟩) (c : PySem.W.codeIn K cdv qual = true) (k : PySem.W.keepIn K (.ref f) = true) :
    Mk K C f ∧ Fun K x qual st f (PySem.W.fnOf x qual (defArgs st) (defBody st) (defScope st) .none kV doc pm an cdv ct) := ⟨⟨m.1, a, i, m.2⟩, fun_mk l c k⟩
theorem mk_meth (_ : Cls K C) (a : PySem.W.findIn K (.ref C) x = some (some (.ref f))) (i : PySem.W.isFn K (.ref f) = true)
    (l : K.lookup f = some ⟨oc, od, .func (PySem.W.fnOf x qual (defArgs st) (defBody st) (defScope st) .none kV doc pm an cdv ct), osl⟩) (c : PySem.W.codeIn K cdv qual = true) (k : PySem.W.keepIn K (.ref f) = true) :
    Meth K C x f ∧ Fun K x qual st f (PySem.W.fnOf x qual (defArgs st) (defBody st) (defScope st) .none kV doc pm an cdv ct) := ⟨⟨a, i, k⟩, fun_mk l c k⟩
theorem mk_fun (X : K.In h) (G : h.Ns mainGlobals mg) (a : PySem.W.nsIn K mainGlobals x = some (some (.ref f)))
    (l : K.lookup f = some ⟨oc, od, .func (PySem.W.fnOf x qual (defArgs st) (defBody st) (defScope st) .none kV doc pm an cdv ct), osl⟩) (c : PySem.W.codeIn K cdv qual = true) (k : PySem.W.keepIn K (.ref f) = true) :
    mg x = some (.ref f) ∧ Fun K x qual st f (PySem.W.fnOf x qual (defArgs st) (defBody st) (defScope st) .none kV doc pm an cdv ct) := ⟨PySem.W.mg_of X G a, fun_mk l c k⟩
theorem mk_tab {es : Array DictEntry} {ep : Nat} (X : K.In h) (G : h.Ns mainGlobals mg) (a : PySem.W.nsIn K mainGlobals x = some (some (.ref f))) (l : K.lookup f = some ⟨.type "dict", none, .dict es ep, #[]⟩) :
    mg x = some (.ref f) ∧ K.lookup f = some ⟨.type "dict", none, .dict es ep, #[]⟩ := ⟨PySem.W.mg_of X G a, l⟩
def numsOf : List DictEntry → Option (List (Int × Value))
  | [] => some []
  | e :: es => match e.key with
    | .int i _ => if e.hash = hashInt i then (numsOf es).map fun D => (i, e.val) :: D else none
    | _ => none
theorem numRows_of : ∀ {es : List DictEntry} {D : List (Int × Value)}, numsOf es = some D → NumRows es D
  | [], D, h => by
    cases h
    exact .nil
  | e :: es, D, h => by
    obtain ⟨hs, key, val⟩ := e
    unfold numsOf at h
    cases key with
    | int i t =>
      dsimp only at h
      by_cases q : hs = hashInt i
      · rw [if_pos q] at h
        obtain ⟨D', h1, h2⟩ := Option.map_eq_some_iff.mp h
        subst h2
        subst q
        exact .cons (numRows_of h1)
      · rw [if_neg q] at h
        cases h
    | _ => cases h
theorem kdict_of {es : Array DictEntry} {ep : Nat} {D : List (Int × Value)} (l : K.lookup f = some ⟨.type "dict", none, .dict es ep, #[]⟩) (e : numsOf es.toList = some D) (n : (D.map (·.1)).Nodup) : KDict K f D := ⟨es, ep, l, numRows_of e, n⟩
/-- what a table that is known number by number holds -/
theorem val_int {D : List (Int × Value)} {M : List (Int × Option Int)} {n z : Int} (h : D.map (fun e => (e.1, intOf e.2)) = M) (hm : (M.find? fun e => e.1 = n).map (·.2) = some (some z)) : ∃ t, valueAt D n = some (Value.int z t) := by
  subst h
  rw [List.find?_map, Option.map_map] at hm
  obtain ⟨e, h1, h2⟩ := Option.map_eq_some_iff.mp hm
  have h2 : intOf e.2 = some z := h2
  obtain ⟨i, v⟩ := e
  cases v with
  | int y t =>
    cases h2
    refine ⟨t, ?_⟩
    unfold valueAt
    rw [show (D.find? fun kv => decide (kv.1 = n)) = some (i, Value.int z t) from h1]
    rfl
  | _ => cases h2
theorem val_ref {D : List (Int × Value)} {M : List (Int × Option Addr)} {n : Int} {a : Addr} (h : D.map (fun e => (e.1, refOf e.2)) = M) (hm : (M.find? fun e => e.1 = n).map (·.2) = some (some a)) : valueAt D n = some (Value.ref a) := by
  subst h
  rw [List.find?_map, Option.map_map] at hm
  obtain ⟨e, h1, h2⟩ := Option.map_eq_some_iff.mp hm
  have h2 : refOf e.2 = some a := h2
  obtain ⟨i, v⟩ := e
  cases v with
  | ref y =>
    cases h2
    unfold valueAt
    rw [show (D.find? fun kv => decide (kv.1 = n)) = some (i, Value.ref a) from h1]
    rfl
  | _ => cases h2
end
end Cw
end

section
set_option Elab.async false
set_option linter.all false
set_option maxRecDepth 100000
set_option maxHeartbeats 2000000
namespace Cw
open PySem PySem.Spec PyProof.Rows L2
section
/-! ### what someone is shown: plain facts -/
abbrev Row := Nat × Nat × Nat
def before (a b : Row) : Prop := a.1 < b.1 ∨ (a.1 = b.1 ∧ a.2.1 < b.2.1)
theorem before_trans {a b c : Row} (h : before a b) (h' : before b c) : before a c := by
  unfold before at *
  omega
theorem insert_perm (a : Row) : ∀ l : List Row, (Cl06.insert a l).Perm (a :: l)
  | [] => List.Perm.refl _
  | b :: l => by
    unfold Cl06.insert
    split
    · exact List.Perm.refl _
    · exact ((insert_perm a l).cons b).trans (List.Perm.swap a b l)
theorem insert_sorted (a : Row) : ∀ l : List Row, l.Pairwise before → (∀ b ∈ l, b.2.1 ≠ a.2.1) → (Cl06.insert a l).Pairwise before
  | [], _, _ => List.pairwise_singleton _ _
  | b :: l, h, hn => by
    obtain ⟨h1, h2⟩ := List.pairwise_cons.mp h
    unfold Cl06.insert
    by_cases e : a.1 < b.1 ∨ (a.1 = b.1 ∧ a.2.1 < b.2.1)
    · rw [if_pos e]
      refine List.pairwise_cons.mpr ⟨fun c hc => ?_, h⟩
      rcases List.mem_cons.mp hc with rfl | hc
      · exact e
      · exact before_trans e (h1 c hc)
    · rw [if_neg e]
      refine List.pairwise_cons.mpr ⟨fun c hc => ?_, insert_sorted a l h2 fun c hc => hn c (List.mem_cons_of_mem _ hc)⟩
      rcases List.mem_cons.mp ((insert_perm a l).mem_iff.mp hc) with rfl | hc
      · have := hn b List.mem_cons_self
        unfold before
        omega
      · exact h1 c hc
theorem fold_sorted : ∀ (l acc : List Row), acc.Pairwise before → ((acc ++ l).map (·.2.1)).Nodup → (l.foldl (fun x a => Cl06.insert a x) acc).Pairwise before ∧ (l.foldl (fun x a => Cl06.insert a x) acc).Perm (acc ++ l)
  | [], acc, h, _ => ⟨h, by rw [List.append_nil]; exact List.Perm.refl _⟩
  | a :: l, acc, h, hn => by
    have hp : (acc ++ a :: l).Perm ((Cl06.insert a acc) ++ l) := by
      have e : (acc ++ a :: l).Perm (a :: acc ++ l) := List.perm_middle
      exact e.trans ((insert_perm a acc).symm.append_right l)
    have hn2 : (((Cl06.insert a acc) ++ l).map (·.2.1)).Nodup := (hp.map _).nodup_iff.mp hn
    have ha : ∀ b ∈ acc, b.2.1 ≠ a.2.1 := fun b hb e => by
      rw [List.map_append] at hn
      exact (List.nodup_append.mp hn).2.2 b.2.1 (List.mem_map.mpr ⟨b, hb, rfl⟩) a.2.1 (List.mem_map.mpr ⟨a, List.mem_cons_self, rfl⟩) e
    obtain ⟨q1, q2⟩ := fold_sorted l (Cl06.insert a acc) (insert_sorted a acc h ha) hn2
    exact ⟨q1, q2.trans hp.symm⟩
theorem sorted_eq : ∀ {l l' : List Row}, l.Perm l' → l.Pairwise before → l'.Pairwise before → l = l'
  | [], l', p, _, _ => by rw [p.nil_eq]
  | a :: l, [], p, _, _ => by
    have := p.length_eq
    simp at this
  | a :: l, b :: l', p, h, h' => by
    obtain ⟨h1, h2⟩ := List.pairwise_cons.mp h
    obtain ⟨h1', h2'⟩ := List.pairwise_cons.mp h'
    by_cases e : a = b
    · subst e
      rw [sorted_eq (List.Perm.cons_inv p) h2 h2']
    · exfalso
      have ma : a ∈ l' := (List.mem_cons.mp (p.mem_iff.mp List.mem_cons_self)).resolve_left e
      have mb : b ∈ l := (List.mem_cons.mp (p.mem_iff.mpr List.mem_cons_self)).resolve_left fun q => e q.symm
      have q1 := h1 b mb
      have q2 := h1' a ma
      unfold before at q1 q2
      omega
def rowNums (r : Row) : List Int := [(r.1 : Int), (r.2.1 : Int), (r.2.2 : Int)]
theorem rowNums_ne (r : Row) : rowNums r ≠ [] := by intro h; cases h
theorem blt_inl {a b : Int} : itemOrd.blt (Sum.inl a) (Sum.inl b) = decide (a < b) := rfl
theorem not_above {a b : Row} (h : notAbove (rowNums a) (rowNums b)) (n : a.2.1 ≠ b.2.1) : before a b := by
  unfold notAbove rowNums at h
  have h : lexLt itemOrd (Sum.inl (b.1 : Int) :: [Sum.inl (b.2.1 : Int), Sum.inl (b.2.2 : Int)]) (Sum.inl (a.1 : Int) :: [Sum.inl (a.2.1 : Int), Sum.inl (a.2.2 : Int)]) = false := h
  obtain ⟨h1, h2⟩ := lex_false.mp h
  have h1 := of_decide_eq_false (show decide ((b.1 : Int) < (a.1 : Int)) = false from h1)
  unfold before
  rcases h2 with h2 | h2
  · have h2 := of_decide_eq_true (show decide ((a.1 : Int) < (b.1 : Int)) = true from h2)
    omega
  · obtain ⟨h3, _⟩ := lex_false.mp h2
    have h3 := of_decide_eq_false (show decide ((b.2.1 : Int) < (a.2.1 : Int)) = false from h3)
    omega
/-- the row of one meeting, for one person -/
def rowOf (s : Cl06.State) (p m : Nat) : Option Row :=
  let x := Cl06.meeting s m
  if x.host = p then (if x.off = true then none else some (x.time, m, 4)) else match Cl06.copyOf s p m with
    | none => none
    | some c => if c.off = true ∨ (c.asked = false ∨ c.answer = 2) then none else some (c.time, m, c.answer)
def rowsOf (s : Cl06.State) (p : Nat) : List Row := (List.range s.meetings.length).filterMap (rowOf s p)
theorem shown_rows (s : Cl06.State) (p : Nat) : Cl06.shown s p = (rowsOf s p).foldl (fun x a => Cl06.insert a x) [] := rfl
theorem rowOf_num {s : Cl06.State} {p m : Nat} {r : Row} (h : rowOf s p m = some r) : r.2.1 = m := by
  unfold rowOf at h
  dsimp only at h
  split at h
  · split at h
    · cases h
    · cases h
      rfl
  · split at h
    · cases h
    · split at h
      · cases h
      · cases h
        rfl
theorem rows_nodup (s : Cl06.State) (p : Nat) : ((rowsOf s p).map (·.2.1)).Nodup := by
  have key : ∀ l : List Nat, l.Nodup → ((l.filterMap (rowOf s p)).map (·.2.1)).Nodup ∧ ∀ z ∈ (l.filterMap (rowOf s p)).map (·.2.1), z ∈ l := by
    intro l
    induction l with
    | nil => intro _; exact ⟨by simp, fun z hz => by simp at hz⟩
    | cons m l ih =>
      intro hn
      obtain ⟨n1, n2⟩ := List.nodup_cons.mp hn
      obtain ⟨i1, i2⟩ := ih n2
      rw [List.filterMap_cons]
      cases hr : rowOf s p m with
      | none => exact ⟨i1, fun z hz => List.mem_cons_of_mem _ (i2 z hz)⟩
      | some r =>
        have e := rowOf_num hr
        dsimp only
        rw [List.map_cons]
        refine ⟨List.nodup_cons.mpr ⟨fun q => n1 (e ▸ i2 _ q), i1⟩, fun z hz => ?_⟩
        rcases List.mem_cons.mp hz with rfl | hz
        · rw [e]
          exact List.mem_cons_self
        · exact List.mem_cons_of_mem _ (i2 z hz)
  exact (key _ List.nodup_range).1
theorem shown_eq {s : Cl06.State} {p : Nat} {l : List Row} (hp : l.Perm (rowsOf s p)) (hs : l.Pairwise fun x y => notAbove (rowNums x) (rowNums y)) : l = Cl06.shown s p := by
  have nd := rows_nodup s p
  obtain ⟨q1, q2⟩ := fold_sorted (rowsOf s p) [] List.Pairwise.nil nd
  rw [shown_rows]
  refine sorted_eq (hp.trans q2.symm) ?_ q1
  have nd' : (l.map (·.2.1)).Nodup := (hp.map _).nodup_iff.mpr nd
  rw [List.Nodup, List.pairwise_map] at nd'
  exact (hs.and nd').imp fun {a b} q => not_above q.1 q.2
theorem flat_rows (l : List Row) : Cl06.nums (l.length :: l.flatMap fun (x : Nat × Nat × Nat) => [x.1, x.2.1, x.2.2]) = (l.length : Int) :: l.flatMap rowNums := by
  unfold Cl06.nums
  rw [List.map_cons, List.map_flatMap]
  rfl
end
section
variable {P : Program} {w : World} {K : PySem.W.Frag} {mg : Str → Option Value} {base : Heap} {C : Cs} {A : Ad}
def sp_row_for (C : Cs) : Sp := fun vs H Q _ => ∃ (L : Lay) (s : Cl06.State) (p m : Nat) (x : Cl06.Meeting), Rep C H L s ∧ s.meetings[m]? = some x ∧ vs = [.ref L.w, vN p, .ref (L.ma m)] ∧
  ∀ H', Same H H' → (rowOf s p m = none → Q .non H') ∧ (∀ r q, rowOf s p m = some r → H' q = some (.tup ((rowNums r).map V.int)) → Q (.ref q) H')
theorem ok_row_for (T : Txt K mg C) (U : Env K mg C A) : FnOk P w K mg base CX0 2 A.f_row_for A.d_row_for ["world", "person", "meeting"] (sp_row_for C) := by
  refine U.F_row_for.ok sc_row_for (fun vs H Q E h => ?_) (fun cdv A' outer s H vs Q E hr h => ?_)
  · obtain ⟨_, _, _, _, _, _, _, rfl, _⟩ := h
    rfl
  · obtain ⟨L, s', p, m, x, R, hx, rfl, k⟩ := h
    obtain ⟨dw, hw⟩ := R.world
    obtain ⟨dm, hm⟩ := R.meet hx
    have em : Cl06.meeting s' m = x := by
      unfold Cl06.meeting
      rw [List.getD_eq_getElem?_getD, hx]
      rfl
    have er : rowOf s' p m = if x.host = p then (if x.off = true then none else some (x.time, m, 4)) else match Cl06.copyOf s' p m with
        | none => none
        | some c => if c.off = true ∨ (c.asked = false ∨ c.answer = 2) then none else some (c.time, m, c.answer) := by
      unfold rowOf
      rw [em]
    refine ⟨_, (pss_cons (ps_if (pt_cmpR op_eq (pe_fld (pv 2) rfl) (pv 1) (nomark _)) (pss_one (ps_ret (pe_ifExp (pt_cmpR op_eq (pe_fld (pv 2) rfl) pe_int (nomark _)) (pe_tup (pa_cons (pe_fld (pv 2) rfl) (pa_cons (pe_fld (pv 2) rfl) (pa_cons (pe_ci rfl T.k_IS_HOST) pa_nil)))) pe_non))) pss_nil) (pss_cons (ps_set (i := 3) sc_row_for.nd rfl (Or.inl rfl) (pe_meth (pv 0) T.cl_o U.m_World_copy_of (ok_World_copy_of T U) hr U.b_World_copy_of .nil pass0 (pa_cons (pv 1) (pa_cons (pe_fld (pv 2) rfl) pa_nil)))) (pss_cons (ps_if (PW.pt (pw_or (pt_cmpR op_isN (pv 3) pe_non (nomark _)) (pw_or (pt_not (pt_val (pe_meth0 (pv 3) T.cl_c U.m_Copy_invites (ok_Copy_invites T U) hr U.b_Copy_invites .nil pass0))) (pw_or1 (pt_cmpR op_eq (pe_fld (pv 3) rfl) (pe_ci rfl T.k_NO) (nomark _)))))) (pss_one (ps_ret pe_non)) pss_nil) (pss_one (ps_ret (pe_tup (pa_cons (pe_fld (pe_fld (pv 3) rfl) rfl) (pa_cons (pe_fld (pv 2) rfl) (pa_cons (pe_fld (pv 3) rfl) pa_nil))))))))), ?_⟩
    refine ⟨_, rfl, rd_fld hm T.cl_m T.n_m_host rfl ⟨_, rfl, rfl, _, rfl, ?_⟩⟩
    by_cases eh : x.host = p
    · rw [show decide (vN x.host = vN p) = true by rw [eh]; simp]
      refine iteT ?_
      rw [if_pos eh] at er
      refine ⟨_, rfl, rd_fld hm T.cl_m T.n_m_off rfl ⟨rfl, _, rfl, ?_⟩⟩
      rw [show decide (vB x.off = V.int 0) = !x.off from bit_zero]
      cases eo : x.off with
      | true =>
        refine iteF ?_
        rw [if_pos eo] at er
        exact (k H (fun _ _ e => e)).1 er
      | false =>
        refine iteT ?_
        rw [if_neg (by rw [eo]; decide)] at er
        refine ⟨_, rfl, rd_fld hm T.cl_m T.n_m_time rfl ⟨_, rfl, rd_fld hm T.cl_m T.n_m_number rfl ⟨(show 3 ≤ sizeLine by decide), fun q hq => ?_⟩⟩⟩
        exact (k _ (Same.upd' hq)).2 _ q er upd_same
    · rw [show decide (vN x.host = vN p) = false by rw [decide_eq_false_iff_not]; intro q; injection q with q; omega]
      refine iteF ?_
      rw [if_neg eh] at er
      refine ⟨_, rfl, _, dw, _, rfl, hw, rfl, _, rfl, _, rfl, rd_fld hm T.cl_m T.n_m_number rfl ⟨L, s', p, m, R, rfl, fun H1 sm => ⟨fun c hc => ?_, fun hn => ?_⟩⟩⟩
      · rw [hc] at er
        have S0 := R.laid sm
        obtain ⟨dc, hc1⟩ := S0.rep.copy hc
        obtain ⟨hh, dv, hv⟩ := S0.rep.wrd _ _ _ hc
        have hm1 := sm _ _ hm
        refine ⟨_, rfl, rfl, _, rfl, ?_⟩
        refine iteF ?_
        refine ⟨_, rfl, _, dc, _, rfl, hc1, rfl, _, dc, _, dv, c, wordOf p m hh c, rfl, hc1, hv, _, rfl, ?_⟩
        show if (!(!c.off && c.asked)) = true then _ else _
        cases eo : c.off with
        | true =>
          refine iteT ?_
          refine iteT ?_
          exact (k H1 sm).1 (er.trans (if_pos (.inl eo)))
        | false =>
          cases ea : c.asked with
          | false =>
            refine iteT ?_
            refine iteT ?_
            exact (k H1 sm).1 (er.trans (if_pos (.inr (.inl ea))))
          | true =>
            refine iteF ?_
            refine ⟨_, rfl, rd_fld hc1 T.cl_c T.n_c_answer rfl ⟨rfl, _, rfl, ?_⟩⟩
            by_cases e2 : c.answer = 2
            · rw [show decide (vN c.answer = V.int 2) = true by rw [e2]; rfl]
              refine iteT ?_
              exact (k H1 sm).1 (er.trans (if_pos (.inr (.inr e2))))
            · rw [show decide (vN c.answer = V.int 2) = false by rw [decide_eq_false_iff_not]; intro q; injection q with q; omega]
              refine iteF ?_
              have er := er.trans (if_neg (by rintro (q | q | q); · rw [eo] at q; cases q
                                              · rw [ea] at q; cases q
                                              · exact e2 q))
              refine ⟨_, rfl, rd_fld hc1 T.cl_c T.n_c_word rfl (rd_fld hv T.cl_w T.n_w_time rfl ⟨_, rfl, rd_fld hm1 T.cl_m T.n_m_number rfl ⟨_, rfl, rd_fld hc1 T.cl_c T.n_c_answer rfl ⟨(show 3 ≤ sizeLine by decide), fun q hq => ?_⟩⟩⟩)⟩
              exact (k _ (sm.trans (Same.upd' hq))).2 _ q er upd_same
      · rw [hn] at er
        refine ⟨_, rfl, rfl, _, rfl, ?_⟩
        refine iteT ?_
        refine iteT ?_
        exact (k H1 sm).1 er
/-! ### the rows as they lie in the heap -/
def cell (s : Cl06.State) (p : Nat) (ad : Nat → Addr) (j : Nat) : V := match rowOf s p j with
  | none => .non
  | some _ => .ref (ad j)
theorem cell_none {s : Cl06.State} {p j : Nat} {ad : Nat → Addr} (h : rowOf s p j = none) : cell s p ad j = .non := by
  unfold cell
  rw [h]
theorem cell_some {s : Cl06.State} {p j : Nat} {ad : Nat → Addr} {r : Row} (h : rowOf s p j = some r) : cell s p ad j = .ref (ad j) := by
  unfold cell
  rw [h]
theorem range_cell {s : Cl06.State} {p i : Nat} {ad : Nat → Addr} {q : Addr} : (List.range (i + 1)).map (cell s p fun j => if j = i then q else ad j) = (List.range i).map (cell s p ad) ++ [cell s p (fun _ => q) i] := by
  rw [List.range_succ, List.map_append]
  have e1 : (List.range i).map (cell s p fun j => if j = i then q else ad j) = (List.range i).map (cell s p ad) := by
    apply List.map_congr_left
    intro j hj
    have hj := List.mem_range.mp hj
    show (match rowOf s p j with | none => V.non | some _ => V.ref (if j = i then q else ad j)) = _
    rw [if_neg (by omega)]
    rfl
  rw [e1, List.map_cons, List.map_nil]
  have e2 : (cell s p fun j => if j = i then q else ad j) i = cell s p (fun _ => q) i := by
    show (match rowOf s p i with | none => V.non | some _ => V.ref (if i = i then q else ad i)) = _
    rw [if_pos rfl]
    rfl
  rw [e2]
def refsUpTo (s : Cl06.State) (p : Nat) (ad : Nat → Addr) (n : Nat) : List Addr := (List.range n).filterMap fun j => (rowOf s p j).map fun _ => ad j
theorem refs_none {s : Cl06.State} {p i : Nat} {ad : Nat → Addr} (h : rowOf s p i = none) : refsUpTo s p ad (i + 1) = refsUpTo s p ad i := by
  unfold refsUpTo
  rw [List.range_succ, List.filterMap_append]
  simp [h]
theorem refs_some {s : Cl06.State} {p i : Nat} {ad : Nat → Addr} {r : Row} (h : rowOf s p i = some r) : refsUpTo s p ad (i + 1) = refsUpTo s p ad i ++ [ad i] := by
  unfold refsUpTo
  rw [List.range_succ, List.filterMap_append]
  simp [h]
theorem refs_len (s : Cl06.State) (p : Nat) (ad : Nat → Addr) (n : Nat) : (refsUpTo s p ad n).length ≤ n := by
  unfold refsUpTo
  exact Nat.le_trans (List.length_filterMap_le _ _) (by rw [List.length_range]; exact Nat.le_refl _)
theorem refs_mem {s : Cl06.State} {p n : Nat} {ad : Nat → Addr} {a : Addr} (h : a ∈ refsUpTo s p ad n) : ∃ j r, j < n ∧ rowOf s p j = some r ∧ ad j = a := by
  obtain ⟨j, hj, e⟩ := List.mem_filterMap.mp h
  obtain ⟨r, hr, e⟩ := Option.map_eq_some_iff.mp e
  exact ⟨j, r, List.mem_range.mp hj, hr, e⟩
theorem refs_rows {s : Cl06.State} {p : Nat} {ad : Nat → Addr} {g : Addr → Row} : ∀ l : List Nat, (∀ j ∈ l, ∀ r, rowOf s p j = some r → g (ad j) = r) → (l.filterMap fun j => (rowOf s p j).map fun _ => ad j).map g = l.filterMap (rowOf s p)
  | [], _ => rfl
  | j :: l, h => by
    rw [List.filterMap_cons, List.filterMap_cons]
    have ih := refs_rows l fun i hi => h i (List.mem_cons_of_mem _ hi)
    cases hr : rowOf s p j with
    | none => exact ih
    | some r =>
      show g (ad j) :: _ = r :: _
      rw [ih, h j List.mem_cons_self r hr]
def readRow (H : Hp) (r : Addr) : Row := match H r with
  | some (.tup [.int a, .int b, .int c]) => (a.toNat, b.toNat, c.toNat)
  | _ => (0, 0, 0)
theorem readRow_of {H : Hp} {r : Addr} {z : Row} (h : H r = some (.tup ((rowNums z).map V.int))) : readRow H r = z := by
  unfold readRow
  rw [h]
  rfl
theorem flat3 {g : Addr → Row} : ∀ l : List Addr, (l.flatMap fun r => rowNums (g r)).length = 3 * l.length
  | [] => rfl
  | a :: l => by
    rw [List.flatMap_cons, List.length_append, flat3 l, List.length_cons]
    show 3 + _ = _
    omega
theorem ok_show_person (T : Txt K mg C) (U : Env K mg C A) : FnOk P w K mg base CX0 3 A.f_show_person A.d_show_person ["world", "numbers"] (sp_call C D15) := by
  refine U.F_show_person.ok sc_show_person (fun vs H Q E h => ?_) (fun cdv A' outer s H vs Q E hr h => ?_)
  · obtain ⟨_, _, _, _, _, _, rfl, _⟩ := h
    rfl
  · obtain ⟨L, s', nl, ns, c, R, rfl, hnl, nf, ⟨p, rfl, rfl⟩, k⟩ := h
    obtain ⟨dw, hw⟩ := R.world
    have st : Cl06.step s' (.shown p) = (s', if Cl06.PEOPLE ≤ p then [-1] else Cl06.nums ((Cl06.shown s' p).length :: (Cl06.shown s' p).flatMap fun (x : Nat × Nat × Nat) => [x.1, x.2.1, x.2.2])) := rfl
    have few := R.good.few
    have hlm := R.lm
    refine ⟨_, (pss_cons (ps_set (i := 2) sc_show_person.nd rfl (Or.inr rfl) (pe_ix ix_list (pv 1) pe_int (fun _ _ => rfl))) (pss_cons (ps_if (pt_cmpR op_ge (pv 2) (pe_ci rfl T.k_PEOPLE) (nomark _)) (pss_one (ps_ret (pe_lst (pa_cons (pe_ci rfl T.k_WRONG) pa_nil)))) pss_nil) (pss_cons (ps_setLc (i := 3) (own := [("meeting", 4)]) (g := gName 4) rfl sc_show_person.nd rfl rfl (sw_true rfl rfl rfl (by decide +kernel)) (pi_list (pe_fld (pv 0) rfl)) (blkOk_by (own := [("meeting", 4)]) (N := ["world", "numbers", "person", "rows", "meeting", "row", "shown"]) (sc := defScope s_show_person) (by decide +kernel)) (fun _ _ _ _ _ => pg_name (i := 4) sc_show_person.nd rfl (Or.inl rfl)) (fun _ _ _ _ _ => pts_nil) (fun _ _ _ _ _ => (pe_call (ok_row_for T U) hr rfl U.g_row_for U.F_row_for.kp U.b_row_for .nil pass0 (pa_cons (pv 0) (pa_cons (pv 2) (pa_cons (pv 4) pa_nil)))))) (pss_cons (ps_set (i := 3) sc_show_person.nd rfl (Or.inl rfl) (pe_callB cr_sortedT rfl T.b_sorted (by decide +kernel) (pa_cons (pe_lc (own := [("row", 5)]) (g := gName 5) rfl sc_show_person.nd (pi_list (pv 3)) (blkOk_by (own := [("row", 5)]) (N := ["world", "numbers", "person", "rows", "meeting", "row", "shown"]) (sc := defScope s_show_person) (by decide +kernel)) (fun _ _ _ _ _ => pg_name (i := 5) sc_show_person.nd rfl (Or.inl rfl)) (fun _ _ _ _ _ => pts_one (pt_cmpR op_notN (pv 5) pe_non (nomark _))) (fun _ _ _ _ _ => (pv 5))) pa_nil))) (pss_cons (ps_set (i := 6) sc_show_person.nd rfl (Or.inl rfl) (pe_lst (pa_cons (pe_callB call_len_seq rfl T.b_len PySem.boot_len (pa_cons (pv 3) pa_nil)) pa_nil))) (pss_cons (ps_for PassesOwn.never rfl (pi_list (pv 3)) (pg_name (i := 5) sc_show_person.nd rfl (Or.inl rfl)) (pss_one (ps_expr (pe_bm PySem.F.plainAttrs_list PySem.F.slot_list_extend PySem.F.type_list_extend mt_extendT (pv 6) (pa_cons (pv 5) pa_nil))))) (pss_one (ps_ret (pv 6))))))))), ?_⟩
    refine ⟨_, rfl, rd_ix 0 hnl rfl ?_⟩
    refine ⟨_, rfl, _, _, rfl, rfl, _, rfl, ?_⟩
    by_cases e5 : 5 ≤ p
    · rw [show decide ((5 : Int) ≤ (p : Int)) = true from decide_eq_true (by omega)]
      refine iteT ?_
      refine ⟨(show 1 ≤ sizeLine by decide), fun q hq => fin k (Stp.refl R) hq [-1] (st.trans ?_)⟩
      rw [if_pos (show Cl06.PEOPLE ≤ p from e5)]
    rw [show decide ((5 : Int) ≤ (p : Int)) = false from decide_eq_false (by omega)]
    refine iteF ?_
    rw [if_neg (show ¬ Cl06.PEOPLE ≤ p from e5), flat_rows] at st
    refine ⟨_, rfl, rd_fld hw T.cl_o T.n_o_meetings rfl ⟨_, rfl, ⟨_, SqL.of hlm⟩, fun D hD => lc_list (K := K) (a := L.lm) (xs := meetsV L s'.meetings.length)
      (fun i H' => ∃ ad : Nat → Addr, H' D = some (.lst ((List.range i).map (cell s' p ad))) ∧ Same H H' ∧ ∀ j r, j < i → rowOf s' p j = some r → H' (ad j) = some (.tup ((rowNums r).map V.int)))
      ⟨fun _ => 0, upd_same, Same.upd' hD, fun j r hj => by omega⟩ (fun i H' _ ⟨_, _, sm, _⟩ => SqL.of (sm _ _ hlm)) ?_ ?_⟩⟩
    · rintro i y H' hy ⟨ad, hD', sm, hrow⟩
      have hlt : i < s'.meetings.length := by
        have := (List.getElem?_eq_some_iff.mp hy).1
        rwa [meetsV_len] at this
      rw [meetsV_at hlt] at hy
      cases hy
      obtain ⟨x, hx⟩ : ∃ x, s'.meetings[i]? = some x := ⟨_, List.getElem?_eq_getElem hlt⟩
      have fine : ∀ (H2 : Hp) (v : V) (q : Addr), Same H' H2 → v = cell s' p (fun _ => q) i → (∀ r, rowOf s' p i = some r → H2 q = some (.tup ((rowNums r).map V.int))) →
          ∃ acc, H2 D = some (.lst acc) ∧ acc.length < sizeLine ∧ ∃ ad : Nat → Addr, upd H2 D (.lst (acc ++ [v])) D = some (.lst ((List.range (i + 1)).map (cell s' p ad))) ∧ Same H (upd H2 D (.lst (acc ++ [v]))) ∧
            ∀ j r, j < i + 1 → rowOf s' p j = some r → upd H2 D (.lst (acc ++ [v])) (ad j) = some (.tup ((rowNums r).map V.int)) := fun H2 v q s2 ev hq => by
        have hD2 := s2 _ _ hD'
        refine ⟨_, hD2, ?_, fun j => if j = i then q else ad j, ?_, fun b o e => up (s2 _ _ (sm b o e)) (ne_of_none e hD), fun j r hj hr => ?_⟩
        · rw [List.length_map, List.length_range]
          exact Nat.lt_of_lt_of_le (m := 6) (by omega) (by decide)
        · rw [upd_same, range_cell, ev]
        · have hj2 : H2 (if j = i then q else ad j) = some (.tup ((rowNums r).map V.int)) := by
            by_cases e : j = i
            · rw [if_pos e]
              exact hq r (e ▸ hr)
            · rw [if_neg e]
              exact s2 _ _ (hrow j r (by omega) hr)
          exact up hj2 (ne_of hj2 hD2 (by intro z; cases z))
      refine ⟨rfl, ?_⟩
      refine lc_yes ?_
      refine ⟨_, rfl, _, rfl, _, rfl, L, s', p, i, x, R.same sm, hx, rfl, fun H2 s2 => ⟨fun hn => ?_, fun r q hr2 hq => ?_⟩⟩
      · exact fine H2 .non 0 s2 (cell_none (ad := fun _ => 0) hn).symm fun r hr2 => by rw [hn] at hr2; cases hr2
      · exact fine H2 (.ref q) q s2 (cell_some (ad := fun _ => q) hr2).symm fun r' hr' => by rw [hr2] at hr'; cases hr'; exact hq
    · rintro H1 ⟨ad, hD1, s1, hrow⟩
      rw [meetsV_len] at hD1 hrow
      refine ⟨_, rfl, D, rfl, ⟨_, SqL.of hD1⟩, fun D2 hD2 => lc_list (K := K) (a := D) (xs := (List.range s'.meetings.length).map (cell s' p ad))
        (fun i H' => H' = upd H1 D2 (.lst ((refsUpTo s' p ad i).map V.ref))) rfl (fun i H' _ e => by rw [e]; exact SqL.of (up hD1 (ne_of_none hD1 hD2))) ?_ ?_⟩
      · rintro i y H' hy rfl
        have hlt : i < s'.meetings.length := by
          have := (List.getElem?_eq_some_iff.mp hy).1
          rwa [List.length_map, List.length_range] at this
        rw [List.getElem?_map, List.getElem?_range hlt] at hy
        have hy : some (cell s' p ad i) = some y := hy
        cases hy
        refine ⟨rfl, _, rfl, rfl, _, rfl, ?_⟩
        cases hri : rowOf s' p i with
        | none =>
          rw [cell_none hri, refs_none hri]
          exact iteF rfl
        | some r =>
          rw [cell_some hri, refs_some hri]
          refine iteT ⟨_, rfl, _, upd_same, ?_, ?_⟩
          · have := refs_len s' p ad i
            rw [List.length_map]
            exact Nat.lt_of_lt_of_le (m := 6) (by omega) (by decide)
          · rw [upd_upd, List.map_append]
            rfl
      · rintro H' rfl
        rw [List.length_map, List.length_range]
        have hlen := refs_len s' p ad s'.meetings.length
        have hrow2 : ∀ a ∈ refsUpTo s' p ad s'.meetings.length, ∃ r, H1 a = some (.tup ((rowNums r).map V.int)) := fun a ha => by
          obtain ⟨j, r, hj, hr2, rfl⟩ := refs_mem ha
          exact ⟨r, hrow j r hj hr2⟩
        have hg : (refsUpTo s' p ad s'.meetings.length).map (readRow H1) = rowsOf s' p := refs_rows _ fun j hj r hr2 => readRow_of (hrow j r (List.mem_range.mp hj) hr2)
        generalize refsUpTo s' p ad s'.meetings.length = rs at hlen hrow2 hg ⊢
        have hrow3 : ∀ a ∈ rs, H1 a = some (.tup ((rowNums (readRow H1 a)).map V.int)) := fun a ha => by
          obtain ⟨r, h1⟩ := hrow2 a ha
          rw [readRow_of h1]
          exact h1
        generalize readRow H1 = g at hg hrow3
        have s2 : Same H1 (upd H1 D2 (.lst (rs.map V.ref))) := Same.upd' hD2
        have hD22 : upd H1 D2 (.lst (rs.map V.ref)) D2 = some (.lst (rs.map V.ref)) := upd_same
        generalize upd H1 D2 (.lst (rs.map V.ref)) = H2 at s2 hD22 ⊢
        refine ⟨D2, rs, fun a => rowNums (g a), rfl, SqL.of hD22, fun a ha => ⟨s2 _ _ (hrow3 a ha), rowNums_ne _⟩, fun rs' b hp hs hb => ?_⟩
        have hrow4 : ∀ a ∈ rs', H2 a = some (.tup ((rowNums (g a)).map V.int)) := fun a ha => s2 _ _ (hrow3 a (hp.mem_iff.mp ha))
        have hlen' : rs'.length ≤ 6 := by rw [hp.length_eq]; omega
        have sh : rs'.map g = Cl06.shown s' p := shown_eq (hg ▸ hp.map g) (List.pairwise_map.mpr hs)
        have s3 : Same H2 (upd H2 b (.lst (rs'.map V.ref))) := Same.upd' hb
        have hb3 : upd H2 b (.lst (rs'.map V.ref)) b = some (.lst (rs'.map V.ref)) := upd_same
        generalize upd H2 b (.lst (rs'.map V.ref)) = H3 at s3 hb3 ⊢
        refine ⟨_, rfl, _, _, rfl, .inl (SqL.of hb3), (show 1 ≤ sizeLine by decide), fun q hq => ?_⟩
        have s13 : Same H H3 := (s1.trans s2).trans s3
        have s4 : Same H3 (upd H3 q (.lst [V.int ((rs'.map V.ref).length : Int)])) := Same.upd' hq
        refine ⟨_, rfl, _, rfl, ⟨_, SqL.of (s4 _ _ hb3)⟩, for_list (K := K) (a := b) (xs := rs'.map V.ref)
          (fun n σ H' => (∃ v4 v5 : Option V, σ = [some (.ref L.w), some (.ref nl), some (vN p), some (.ref b), v4, v5, some (.ref q)]) ∧ H' q = some (.lst (((rs'.length : Int) :: (rs'.take n).flatMap fun a => rowNums (g a)).map V.int)) ∧ Same H3 H')
          ⟨⟨none, none, rfl⟩, ?_, s4⟩ (fun n σ H' _ ⟨_, _, sm⟩ => SqL.of (sm _ _ hb3)) ?_ ?_⟩
        · rw [upd_same, List.length_map, List.take_zero]
          rfl
        · rintro n y σ H' hy ⟨⟨v4, v5, rfl⟩, hq', sm⟩
          rw [List.getElem?_map] at hy
          obtain ⟨a, ha, rfl⟩ := Option.map_eq_some_iff.mp hy
          have hlt := (List.getElem?_eq_some_iff.mp ha).1
          have hta := sm _ _ (s3 _ _ (hrow4 a (List.mem_of_getElem? ha)))
          refine ⟨_, rfl, .inl ⟨rfl, _, SqL.of hq'⟩, _, rfl, q, a, _, _, rfl, rfl, hq', SqT.of hta, ?_, ⟨_, _, rfl⟩, ?_, fun b o e => up (sm b o e) (ne_of_none e hq)⟩
          · rw [List.length_map, List.length_map, List.length_cons, flat3, List.length_take]
            exact Nat.le_trans (m := 100) (by show 3 * min n rs'.length + 1 + 3 ≤ 100; omega) (by decide)
          · rw [upd_same, take_snoc' ha, List.flatMap_append, ← List.map_append, List.cons_append]
            simp
        · rintro σ H' ⟨⟨v4, v5, rfl⟩, hq', sm⟩
          rw [List.length_map, List.take_length] at hq'
          refine ⟨_, rfl, fin' k (R.laid (s13.trans sm)) _ hq' (s13.free hq) (st.trans ?_)⟩
          rw [← sh, List.length_map, List.flatMap_map]
end
end Cw
end

section
set_option Elab.async false
set_option linter.all false
set_option maxRecDepth 100000
set_option maxHeartbeats 2000000
namespace Cw
open PySem PySem.Spec PyProof.Rows L2
section
variable {P : Program} {w : World} {K : PySem.W.Frag} {mg : Str → Option Value} {base : Heap} {C : Cs} {A : Ad}
theorem sizes_ok (U : Env K mg C A) : SizesOk K A.t_SIZES := fun op h => by
  obtain ⟨D, kd, hm⟩ := U.t_SIZES
  have h16 : op = 0 ∨ op = 1 ∨ op = 2 ∨ op = 3 ∨ op = 4 ∨ op = 5 ∨ op = 6 ∨ op = 7 ∨ op = 8 ∨ op = 9 ∨ op = 10 ∨ op = 11 ∨ op = 12 ∨ op = 13 ∨ op = 14 ∨ op = 15 := by omega
  obtain ⟨t, ht⟩ : ∃ t, valueAt D (op : Int) = some (Value.int (siz op : Int) t) := by
    refine val_int hm ?_
    rcases h16 with rfl | rfl | rfl | rfl | rfl | rfl | rfl | rfl | rfl | rfl | rfl | rfl | rfl | rfl | rfl | rfl <;> rfl
  exact ⟨D, t, kd, ht⟩
theorem calls_ok (T : Txt K mg C) (U : Env K mg C A) : CallsOk P w K mg base C 6 A.t_CALLS := fun op h => by
  obtain ⟨D, kd, hm⟩ := U.t_CALLS
  have h16 : op = 0 ∨ op = 1 ∨ op = 2 ∨ op = 3 ∨ op = 4 ∨ op = 5 ∨ op = 6 ∨ op = 7 ∨ op = 8 ∨ op = 9 ∨ op = 10 ∨ op = 11 ∨ op = 12 ∨ op = 13 ∨ op = 14 ∨ op = 15 := by omega
  rcases h16 with rfl | rfl | rfl | rfl | rfl | rfl | rfl | rfl | rfl | rfl | rfl | rfl | rfl | rfl | rfl | rfl
  · exact ⟨D, _, A.d_new_meeting, _, kd, val_ref hm rfl, (ok_new_meeting T U).mono (by decide), U.F_new_meeting.kp, U.b_new_meeting⟩
  · exact ⟨D, _, A.d_move_meeting, _, kd, val_ref hm rfl, (ok_move_meeting T U).mono (by decide), U.F_move_meeting.kp, U.b_move_meeting⟩
  · exact ⟨D, _, A.d_call_off, _, kd, val_ref hm rfl, (ok_call_off T U).mono (by decide), U.F_call_off.kp, U.b_call_off⟩
  · exact ⟨D, _, A.d_ask_person, _, kd, val_ref hm rfl, (ok_ask_person T U).mono (by decide), U.F_ask_person.kp, U.b_ask_person⟩
  · exact ⟨D, _, A.d_take_off_person, _, kd, val_ref hm rfl, (ok_take_off_person T U).mono (by decide), U.F_take_off_person.kp, U.b_take_off_person⟩
  · exact ⟨D, _, A.d_give_answer, _, kd, val_ref hm rfl, (ok_give_answer T U).mono (by decide), U.F_give_answer.kp, U.b_give_answer⟩
  · exact ⟨D, _, A.d_grant_wish, _, kd, val_ref hm rfl, (ok_grant_wish T U).mono (by decide), U.F_grant_wish.kp, U.b_grant_wish⟩
  · exact ⟨D, _, A.d_nudge_guests, _, kd, val_ref hm rfl, (ok_nudge_guests T U).mono (by decide), U.F_nudge_guests.kp, U.b_nudge_guests⟩
  · exact ⟨D, _, A.d_press_answer, _, kd, val_ref hm rfl, (ok_press_answer T U).mono (by decide), U.F_press_answer.kp, U.b_press_answer⟩
  · exact ⟨D, _, A.d_take_letter, _, kd, val_ref hm rfl, (ok_take_letter T U).mono (by decide), U.F_take_letter.kp, U.b_take_letter⟩
  · exact ⟨D, _, A.d_keep_letter, _, kd, val_ref hm rfl, (ok_keep_letter T U).mono (by decide), U.F_keep_letter.kp, U.b_keep_letter⟩
  · exact ⟨D, _, A.d_lose_letter, _, kd, val_ref hm rfl, (ok_lose_letter T U).mono (by decide), U.F_lose_letter.kp, U.b_lose_letter⟩
  · exact ⟨D, _, A.d_show_letters, _, kd, val_ref hm rfl, (ok_show_letters T U).mono (by decide), U.F_show_letters.kp, U.b_show_letters⟩
  · exact ⟨D, _, A.d_show_host, _, kd, val_ref hm rfl, (ok_show_host T U).mono (by decide), U.F_show_host.kp, U.b_show_host⟩
  · exact ⟨D, _, A.d_show_copy, _, kd, val_ref hm rfl, (ok_show_copy T U).mono (by decide), U.F_show_copy.kp, U.b_show_copy⟩
  · exact ⟨D, _, A.d_show_person, _, kd, val_ref hm rfl, (ok_show_person T U).mono (by decide), U.F_show_person.kp, U.b_show_person⟩
end
end Cw
end

open PySem PySem.W PyProof.Rows
set_option Elab.async false
set_option maxRecDepth 100000 in
set_option maxHeartbeats 0 in
theorem PySem.Challenge.cw_crossedletters_s01_answers_holds : PySem.Challenge.rw_crossedletters_s01_answers.Holds := by
  w_on; k_headS; (case hw => exact ⟨[.list [.int 12]], by decide +kernel, by decide +kernel⟩)
  k_fillS
  refine L2.walk_specK (r := PySem.Challenge.rw_crossedletters_s01_answers) (k := 7) (CX := L2.CX0) (ps := ["calls"]) (sp := Cw.sp_answers) (by decide +kernel) rfl rfl ⟨rfl, by decide, by decide⟩ (fun w h Y => PySem.W.kIn_of Y) ?F ?S (fun _ _ _ _ z => z)
  case F =>
    intro w mg fa h Y KX G hmg
    have c_g := Cw.mk_cls (x := "Guest") KX G (by k_is) (by k_is) (by k_is) (by k_is) (by k_is) (by k_is) (by k_is)
    have c_m := Cw.mk_cls (x := "Meeting") KX G (by k_is) (by k_is) (by k_is) (by k_is) (by k_is) (by k_is) (by k_is)
    have c_w := Cw.mk_cls (x := "Word") KX G (by k_is) (by k_is) (by k_is) (by k_is) (by k_is) (by k_is) (by k_is)
    have c_a := Cw.mk_cls (x := "Answer") KX G (by k_is) (by k_is) (by k_is) (by k_is) (by k_is) (by k_is) (by k_is)
    have c_c := Cw.mk_cls (x := "Copy") KX G (by k_is) (by k_is) (by k_is) (by k_is) (by k_is) (by k_is) (by k_is)
    have c_o := Cw.mk_cls (x := "World") KX G (by k_is) (by k_is) (by k_is) (by k_is) (by k_is) (by k_is) (by k_is)
    have d_Guest_init := Cw.mk_init (x := "__init__") (qual := "Guest.__init__") (st := Cw.s_Guest_init) (c_g.2.2) (by k_is) (by k_is) (by k_is) (by k_is) (by k_is)
    have d_Meeting_init := Cw.mk_init (x := "__init__") (qual := "Meeting.__init__") (st := Cw.s_Meeting_init) (c_m.2.2) (by k_is) (by k_is) (by k_is) (by k_is) (by k_is)
    have d_Meeting_guest_of := Cw.mk_meth (x := "guest_of") (qual := "Meeting.guest_of") (st := Cw.s_Meeting_guest_of) (c_m.1) (by k_is) (by k_is) (by k_is) (by k_is) (by k_is)
    have d_Meeting_asked_guest_of := Cw.mk_meth (x := "asked_guest_of") (qual := "Meeting.asked_guest_of") (st := Cw.s_Meeting_asked_guest_of) (c_m.1) (by k_is) (by k_is) (by k_is) (by k_is) (by k_is)
    have d_Meeting_asked_guests := Cw.mk_meth (x := "asked_guests") (qual := "Meeting.asked_guests") (st := Cw.s_Meeting_asked_guests) (c_m.1) (by k_is) (by k_is) (by k_is) (by k_is) (by k_is)
    have d_Word_init := Cw.mk_init (x := "__init__") (qual := "Word.__init__") (st := Cw.s_Word_init) (c_w.2.2) (by k_is) (by k_is) (by k_is) (by k_is) (by k_is)
    have d_Word_row := Cw.mk_meth (x := "row") (qual := "Word.row") (st := Cw.s_Word_row) (c_w.1) (by k_is) (by k_is) (by k_is) (by k_is) (by k_is)
    have d_Answer_init := Cw.mk_init (x := "__init__") (qual := "Answer.__init__") (st := Cw.s_Answer_init) (c_a.2.2) (by k_is) (by k_is) (by k_is) (by k_is) (by k_is)
    have d_Answer_row := Cw.mk_meth (x := "row") (qual := "Answer.row") (st := Cw.s_Answer_row) (c_a.1) (by k_is) (by k_is) (by k_is) (by k_is) (by k_is)
    have d_Copy_init := Cw.mk_init (x := "__init__") (qual := "Copy.__init__") (st := Cw.s_Copy_init) (c_c.2.2) (by k_is) (by k_is) (by k_is) (by k_is) (by k_is)
    have d_Copy_hear := Cw.mk_meth (x := "hear") (qual := "Copy.hear") (st := Cw.s_Copy_hear) (c_c.1) (by k_is) (by k_is) (by k_is) (by k_is) (by k_is)
    have d_Copy_invites := Cw.mk_meth (x := "invites") (qual := "Copy.invites") (st := Cw.s_Copy_invites) (c_c.1) (by k_is) (by k_is) (by k_is) (by k_is) (by k_is)
    have d_World_init := Cw.mk_init (x := "__init__") (qual := "World.__init__") (st := Cw.s_World_init) (c_o.2.2) (by k_is) (by k_is) (by k_is) (by k_is) (by k_is)
    have d_World_copy_of := Cw.mk_meth (x := "copy_of") (qual := "World.copy_of") (st := Cw.s_World_copy_of) (c_o.1) (by k_is) (by k_is) (by k_is) (by k_is) (by k_is)
    have d_World_send := Cw.mk_meth (x := "send") (qual := "World.send") (st := Cw.s_World_send) (c_o.1) (by k_is) (by k_is) (by k_is) (by k_is) (by k_is)
    have d_World_tell := Cw.mk_meth (x := "tell") (qual := "World.tell") (st := Cw.s_World_tell) (c_o.1) (by k_is) (by k_is) (by k_is) (by k_is) (by k_is)
    have d_World_tell_asked := Cw.mk_meth (x := "tell_asked") (qual := "World.tell_asked") (st := Cw.s_World_tell_asked) (c_o.1) (by k_is) (by k_is) (by k_is) (by k_is) (by k_is)
    have d_World_add_meeting := Cw.mk_meth (x := "add_meeting") (qual := "World.add_meeting") (st := Cw.s_World_add_meeting) (c_o.1) (by k_is) (by k_is) (by k_is) (by k_is) (by k_is)
    have d_World_move := Cw.mk_meth (x := "move") (qual := "World.move") (st := Cw.s_World_move) (c_o.1) (by k_is) (by k_is) (by k_is) (by k_is) (by k_is)
    have d_World_hand_over := Cw.mk_meth (x := "hand_over") (qual := "World.hand_over") (st := Cw.s_World_hand_over) (c_o.1) (by k_is) (by k_is) (by k_is) (by k_is) (by k_is)
    have d_World_hand_over_word := Cw.mk_meth (x := "hand_over_word") (qual := "World.hand_over_word") (st := Cw.s_World_hand_over_word) (c_o.1) (by k_is) (by k_is) (by k_is) (by k_is) (by k_is)
    have d_World_hand_over_answer := Cw.mk_meth (x := "hand_over_answer") (qual := "World.hand_over_answer") (st := Cw.s_World_hand_over_answer) (c_o.1) (by k_is) (by k_is) (by k_is) (by k_is) (by k_is)
    have d_is_meeting := Cw.mk_fun (x := "is_meeting") (qual := "is_meeting") (st := Cw.s_is_meeting) KX G (by k_is) (by k_is) (by k_is) (by k_is)
    have d_is_letter := Cw.mk_fun (x := "is_letter") (qual := "is_letter") (st := Cw.s_is_letter) KX G (by k_is) (by k_is) (by k_is) (by k_is)
    have d_refusal_to_change := Cw.mk_fun (x := "refusal_to_change") (qual := "refusal_to_change") (st := Cw.s_refusal_to_change) KX G (by k_is) (by k_is) (by k_is) (by k_is)
    have d_may_meet := Cw.mk_fun (x := "may_meet") (qual := "may_meet") (st := Cw.s_may_meet) KX G (by k_is) (by k_is) (by k_is) (by k_is)
    have d_new_meeting := Cw.mk_fun (x := "new_meeting") (qual := "new_meeting") (st := Cw.s_new_meeting) KX G (by k_is) (by k_is) (by k_is) (by k_is)
    have d_move_meeting := Cw.mk_fun (x := "move_meeting") (qual := "move_meeting") (st := Cw.s_move_meeting) KX G (by k_is) (by k_is) (by k_is) (by k_is)
    have d_call_off := Cw.mk_fun (x := "call_off") (qual := "call_off") (st := Cw.s_call_off) KX G (by k_is) (by k_is) (by k_is) (by k_is)
    have d_ask_person := Cw.mk_fun (x := "ask_person") (qual := "ask_person") (st := Cw.s_ask_person) KX G (by k_is) (by k_is) (by k_is) (by k_is)
    have d_take_off_person := Cw.mk_fun (x := "take_off_person") (qual := "take_off_person") (st := Cw.s_take_off_person) KX G (by k_is) (by k_is) (by k_is) (by k_is)
    have d_give_answer := Cw.mk_fun (x := "give_answer") (qual := "give_answer") (st := Cw.s_give_answer) KX G (by k_is) (by k_is) (by k_is) (by k_is)
    have d_grant_wish := Cw.mk_fun (x := "grant_wish") (qual := "grant_wish") (st := Cw.s_grant_wish) KX G (by k_is) (by k_is) (by k_is) (by k_is)
    have d_nudge_guests := Cw.mk_fun (x := "nudge_guests") (qual := "nudge_guests") (st := Cw.s_nudge_guests) KX G (by k_is) (by k_is) (by k_is) (by k_is)
    have d_press_answer := Cw.mk_fun (x := "press_answer") (qual := "press_answer") (st := Cw.s_press_answer) KX G (by k_is) (by k_is) (by k_is) (by k_is)
    have d_take_letter := Cw.mk_fun (x := "take_letter") (qual := "take_letter") (st := Cw.s_take_letter) KX G (by k_is) (by k_is) (by k_is) (by k_is)
    have d_keep_letter := Cw.mk_fun (x := "keep_letter") (qual := "keep_letter") (st := Cw.s_keep_letter) KX G (by k_is) (by k_is) (by k_is) (by k_is)
    have d_lose_letter := Cw.mk_fun (x := "lose_letter") (qual := "lose_letter") (st := Cw.s_lose_letter) KX G (by k_is) (by k_is) (by k_is) (by k_is)
    have d_show_letters := Cw.mk_fun (x := "show_letters") (qual := "show_letters") (st := Cw.s_show_letters) KX G (by k_is) (by k_is) (by k_is) (by k_is)
    have d_show_host := Cw.mk_fun (x := "show_host") (qual := "show_host") (st := Cw.s_show_host) KX G (by k_is) (by k_is) (by k_is) (by k_is)
    have d_show_copy := Cw.mk_fun (x := "show_copy") (qual := "show_copy") (st := Cw.s_show_copy) KX G (by k_is) (by k_is) (by k_is) (by k_is)
    have d_row_for := Cw.mk_fun (x := "row_for") (qual := "row_for") (st := Cw.s_row_for) KX G (by k_is) (by k_is) (by k_is) (by k_is)
    have d_show_person := Cw.mk_fun (x := "show_person") (qual := "show_person") (st := Cw.s_show_person) KX G (by k_is) (by k_is) (by k_is) (by k_is)
    have d_end_of_call := Cw.mk_fun (x := "end_of_call") (qual := "end_of_call") (st := Cw.s_end_of_call) KX G (by k_is) (by k_is) (by k_is) (by k_is)
    have d_answers := Cw.mk_fun (x := "answers") (qual := "answers") (st := Cw.s_answers) KX G (by k_is) (by k_is) (by k_is) (by k_is)
    have t_SIZES := Cw.mk_tab (x := "SIZES") KX G (by k_is) (by k_is)
    have t_CALLS := Cw.mk_tab (x := "CALLS") KX G (by k_is) (by k_is)
    have T : Cw.Txt _ mg ⟨_, _, _, _, _, _⟩ := {
      cl_g := c_g.1
      mg_g := c_g.2.1
      n_g_person := by unfold L2.NoAttr; k_is
      n_g_words := by unfold L2.NoAttr; k_is
      n_g_asked := by unfold L2.NoAttr; k_is
      n_g_counted := by unfold L2.NoAttr; k_is
      n_g_answer := by unfold L2.NoAttr; k_is
      n_g_wish := by unfold L2.NoAttr; k_is
      cl_m := c_m.1
      mg_m := c_m.2.1
      n_m_number := by unfold L2.NoAttr; k_is
      n_m_host := by unfold L2.NoAttr; k_is
      n_m_time := by unfold L2.NoAttr; k_is
      n_m_round_no := by unfold L2.NoAttr; k_is
      n_m_off := by unfold L2.NoAttr; k_is
      n_m_guests := by unfold L2.NoAttr; k_is
      cl_w := c_w.1
      mg_w := c_w.2.1
      n_w_guest := by unfold L2.NoAttr; k_is
      n_w_host := by unfold L2.NoAttr; k_is
      n_w_meeting := by unfold L2.NoAttr; k_is
      n_w_number := by unfold L2.NoAttr; k_is
      n_w_round_no := by unfold L2.NoAttr; k_is
      n_w_time := by unfold L2.NoAttr; k_is
      n_w_off := by unfold L2.NoAttr; k_is
      n_w_asked := by unfold L2.NoAttr; k_is
      cl_a := c_a.1
      mg_a := c_a.2.1
      n_a_guest := by unfold L2.NoAttr; k_is
      n_a_host := by unfold L2.NoAttr; k_is
      n_a_meeting := by unfold L2.NoAttr; k_is
      n_a_number := by unfold L2.NoAttr; k_is
      n_a_round_no := by unfold L2.NoAttr; k_is
      n_a_what := by unfold L2.NoAttr; k_is
      n_a_wish := by unfold L2.NoAttr; k_is
      cl_c := c_c.1
      mg_c := c_c.2.1
      n_c_word := by unfold L2.NoAttr; k_is
      n_c_given := by unfold L2.NoAttr; k_is
      n_c_answer := by unfold L2.NoAttr; k_is
      n_c_wish := by unfold L2.NoAttr; k_is
      cl_o := c_o.1
      mg_o := c_o.2.1
      n_o_meetings := by unfold L2.NoAttr; k_is
      n_o_copies := by unfold L2.NoAttr; k_is
      n_o_letters := by unfold L2.NoAttr; k_is
      k_PEOPLE := ⟨_, PySem.W.mg_of KX G (by k_is)⟩
      k_LAST_TIME := ⟨_, PySem.W.mg_of KX G (by k_is)⟩
      k_MOST_LETTERS := ⟨_, PySem.W.mg_of KX G (by k_is)⟩
      k_NO_TIME := ⟨_, PySem.W.mg_of KX G (by k_is)⟩
      k_NO_ANSWER := ⟨_, PySem.W.mg_of KX G (by k_is)⟩
      k_YES := ⟨_, PySem.W.mg_of KX G (by k_is)⟩
      k_NO := ⟨_, PySem.W.mg_of KX G (by k_is)⟩
      k_PERHAPS := ⟨_, PySem.W.mg_of KX G (by k_is)⟩
      k_WORD := ⟨_, PySem.W.mg_of KX G (by k_is)⟩
      k_ANSWER := ⟨_, PySem.W.mg_of KX G (by k_is)⟩
      k_NO_USE := ⟨_, PySem.W.mg_of KX G (by k_is)⟩
      k_COPY_TOLD := ⟨_, PySem.W.mg_of KX G (by k_is)⟩
      k_ANSWER_COUNTS := ⟨_, PySem.W.mg_of KX G (by k_is)⟩
      k_MOST_MEETINGS := ⟨_, PySem.W.mg_of KX G (by k_is)⟩
      k_WRONG := ⟨_, PySem.W.mg_of KX G (by k_is)⟩
      k_OVER := ⟨_, PySem.W.mg_of KX G (by k_is)⟩
      k_NOT_THERE := ⟨_, PySem.W.mg_of KX G (by k_is)⟩
      k_NOT_SO := ⟨_, PySem.W.mg_of KX G (by k_is)⟩
      k_FULL := ⟨_, PySem.W.mg_of KX G (by k_is)⟩
      k_NEW := ⟨_, PySem.W.mg_of KX G (by k_is)⟩
      k_AT_GUESTS := ⟨_, PySem.W.mg_of KX G (by k_is)⟩
      k_IS_HOST := ⟨_, PySem.W.mg_of KX G (by k_is)⟩
      b_isinstance := PySem.W.mg_none_of KX G (by k_is)
      b_len := PySem.W.mg_none_of KX G (by k_is)
      b_max := PySem.W.mg_none_of KX G (by k_is)
      b_set := PySem.W.mg_none_of KX G (by k_is)
      b_sorted := PySem.W.mg_none_of KX G (by k_is)
      apart := ⟨by decide, by decide, by decide, by decide, by decide, by decide, by decide, by decide, by decide⟩
      ic_w := by k_is
      im_w := by k_is
      ic_a := by k_is
      im_a := by k_is
      ig := by k_is
      it := by k_is
      is_ww := by kit_is
      is_aw := by kit_is
    }
    have U : Cw.Env _ mg ⟨_, _, _, _, _, _⟩ ⟨_, _, _, _, _, _, _, _, _, _, _, _, _, _, _, _, _, _, _, _, _, _, _, _, _, _, _, _, _, _, _, _, _, _, _, _, _, _, _, _, _, _, _, _, _, _, _, _, _, _, _, _, _, _, _, _, _, _, _, _, _, _, _, _, _, _, _, _, _, _, _, _, _, _, _, _, _, _, _, _, _, _, _, _, _, _, _, _, _, _, _, _⟩ := {
      F_Guest_init := d_Guest_init.2
      b_Guest_init := d_Guest_init.2.binds (ps := ["self", "person"]) fun _ _ _ _ _ _ us hl => match us, hl with | [_, _], _ => rfl
      M_g := d_Guest_init.1
      F_Meeting_init := d_Meeting_init.2
      b_Meeting_init := d_Meeting_init.2.binds (ps := ["self", "number", "host", "time", "people"]) fun _ _ _ _ _ _ us hl => match us, hl with | [_, _, _, _, _], _ => rfl
      M_m := d_Meeting_init.1
      F_Meeting_guest_of := d_Meeting_guest_of.2
      b_Meeting_guest_of := d_Meeting_guest_of.2.binds (ps := ["self", "person"]) fun _ _ _ _ _ _ us hl => match us, hl with | [_, _], _ => rfl
      m_Meeting_guest_of := d_Meeting_guest_of.1
      F_Meeting_asked_guest_of := d_Meeting_asked_guest_of.2
      b_Meeting_asked_guest_of := d_Meeting_asked_guest_of.2.binds (ps := ["self", "person"]) fun _ _ _ _ _ _ us hl => match us, hl with | [_, _], _ => rfl
      m_Meeting_asked_guest_of := d_Meeting_asked_guest_of.1
      F_Meeting_asked_guests := d_Meeting_asked_guests.2
      b_Meeting_asked_guests := d_Meeting_asked_guests.2.binds (ps := ["self"]) fun _ _ _ _ _ _ us hl => match us, hl with | [_], _ => rfl
      m_Meeting_asked_guests := d_Meeting_asked_guests.1
      F_Word_init := d_Word_init.2
      b_Word_init := d_Word_init.2.binds (ps := ["self", "meeting", "guest"]) fun _ _ _ _ _ _ us hl => match us, hl with | [_, _, _], _ => rfl
      M_w := d_Word_init.1
      F_Word_row := d_Word_row.2
      b_Word_row := d_Word_row.2.binds (ps := ["self"]) fun _ _ _ _ _ _ us hl => match us, hl with | [_], _ => rfl
      m_Word_row := d_Word_row.1
      F_Answer_init := d_Answer_init.2
      b_Answer_init := d_Answer_init.2.binds (ps := ["self", "meeting", "person", "copy"]) fun _ _ _ _ _ _ us hl => match us, hl with | [_, _, _, _], _ => rfl
      M_a := d_Answer_init.1
      F_Answer_row := d_Answer_row.2
      b_Answer_row := d_Answer_row.2.binds (ps := ["self"]) fun _ _ _ _ _ _ us hl => match us, hl with | [_], _ => rfl
      m_Answer_row := d_Answer_row.1
      F_Copy_init := d_Copy_init.2
      b_Copy_init := d_Copy_init.2.binds (ps := ["self", "word"]) fun _ _ _ _ _ _ us hl => match us, hl with | [_, _], _ => rfl
      M_c := d_Copy_init.1
      F_Copy_hear := d_Copy_hear.2
      b_Copy_hear := d_Copy_hear.2.binds (ps := ["self", "word"]) fun _ _ _ _ _ _ us hl => match us, hl with | [_, _], _ => rfl
      m_Copy_hear := d_Copy_hear.1
      F_Copy_invites := d_Copy_invites.2
      b_Copy_invites := d_Copy_invites.2.binds (ps := ["self"]) fun _ _ _ _ _ _ us hl => match us, hl with | [_], _ => rfl
      m_Copy_invites := d_Copy_invites.1
      F_World_init := d_World_init.2
      b_World_init := d_World_init.2.binds (ps := ["self"]) fun _ _ _ _ _ _ us hl => match us, hl with | [_], _ => rfl
      M_o := d_World_init.1
      F_World_copy_of := d_World_copy_of.2
      b_World_copy_of := d_World_copy_of.2.binds (ps := ["self", "person", "number"]) fun _ _ _ _ _ _ us hl => match us, hl with | [_, _, _], _ => rfl
      m_World_copy_of := d_World_copy_of.1
      F_World_send := d_World_send.2
      b_World_send := d_World_send.2.binds (ps := ["self", "letter"]) fun _ _ _ _ _ _ us hl => match us, hl with | [_, _], _ => rfl
      m_World_send := d_World_send.1
      F_World_tell := d_World_tell.2
      b_World_tell := d_World_tell.2.binds (ps := ["self", "meeting", "guest"]) fun _ _ _ _ _ _ us hl => match us, hl with | [_, _, _], _ => rfl
      m_World_tell := d_World_tell.1
      F_World_tell_asked := d_World_tell_asked.2
      b_World_tell_asked := d_World_tell_asked.2.binds (ps := ["self", "meeting"]) fun _ _ _ _ _ _ us hl => match us, hl with | [_, _], _ => rfl
      m_World_tell_asked := d_World_tell_asked.1
      F_World_add_meeting := d_World_add_meeting.2
      b_World_add_meeting := d_World_add_meeting.2.binds (ps := ["self", "host", "time", "people"]) fun _ _ _ _ _ _ us hl => match us, hl with | [_, _, _, _], _ => rfl
      m_World_add_meeting := d_World_add_meeting.1
      F_World_move := d_World_move.2
      b_World_move := d_World_move.2.binds (ps := ["self", "meeting", "time"]) fun _ _ _ _ _ _ us hl => match us, hl with | [_, _, _], _ => rfl
      m_World_move := d_World_move.1
      F_World_hand_over := d_World_hand_over.2
      b_World_hand_over := d_World_hand_over.2.binds (ps := ["self", "letter"]) fun _ _ _ _ _ _ us hl => match us, hl with | [_, _], _ => rfl
      m_World_hand_over := d_World_hand_over.1
      F_World_hand_over_word := d_World_hand_over_word.2
      b_World_hand_over_word := d_World_hand_over_word.2.binds (ps := ["self", "word"]) fun _ _ _ _ _ _ us hl => match us, hl with | [_, _], _ => rfl
      m_World_hand_over_word := d_World_hand_over_word.1
      F_World_hand_over_answer := d_World_hand_over_answer.2
      b_World_hand_over_answer := d_World_hand_over_answer.2.binds (ps := ["self", "letter"]) fun _ _ _ _ _ _ us hl => match us, hl with | [_, _], _ => rfl
      m_World_hand_over_answer := d_World_hand_over_answer.1
      F_is_meeting := d_is_meeting.2
      b_is_meeting := d_is_meeting.2.binds (ps := ["world", "number"]) fun _ _ _ _ _ _ us hl => match us, hl with | [_, _], _ => rfl
      g_is_meeting := d_is_meeting.1
      F_is_letter := d_is_letter.2
      b_is_letter := d_is_letter.2.binds (ps := ["world", "number"]) fun _ _ _ _ _ _ us hl => match us, hl with | [_, _], _ => rfl
      g_is_letter := d_is_letter.1
      F_refusal_to_change := d_refusal_to_change.2
      b_refusal_to_change := d_refusal_to_change.2.binds (ps := ["world", "number"]) fun _ _ _ _ _ _ us hl => match us, hl with | [_, _], _ => rfl
      g_refusal_to_change := d_refusal_to_change.1
      F_may_meet := d_may_meet.2
      b_may_meet := d_may_meet.2.binds (ps := ["host", "time", "guests"]) fun _ _ _ _ _ _ us hl => match us, hl with | [_, _, _], _ => rfl
      g_may_meet := d_may_meet.1
      F_new_meeting := d_new_meeting.2
      b_new_meeting := d_new_meeting.2.binds (ps := ["world", "numbers"]) fun _ _ _ _ _ _ us hl => match us, hl with | [_, _], _ => rfl
      g_new_meeting := d_new_meeting.1
      F_move_meeting := d_move_meeting.2
      b_move_meeting := d_move_meeting.2.binds (ps := ["world", "numbers"]) fun _ _ _ _ _ _ us hl => match us, hl with | [_, _], _ => rfl
      g_move_meeting := d_move_meeting.1
      F_call_off := d_call_off.2
      b_call_off := d_call_off.2.binds (ps := ["world", "numbers"]) fun _ _ _ _ _ _ us hl => match us, hl with | [_, _], _ => rfl
      g_call_off := d_call_off.1
      F_ask_person := d_ask_person.2
      b_ask_person := d_ask_person.2.binds (ps := ["world", "numbers"]) fun _ _ _ _ _ _ us hl => match us, hl with | [_, _], _ => rfl
      g_ask_person := d_ask_person.1
      F_take_off_person := d_take_off_person.2
      b_take_off_person := d_take_off_person.2.binds (ps := ["world", "numbers"]) fun _ _ _ _ _ _ us hl => match us, hl with | [_, _], _ => rfl
      g_take_off_person := d_take_off_person.1
      F_give_answer := d_give_answer.2
      b_give_answer := d_give_answer.2.binds (ps := ["world", "numbers"]) fun _ _ _ _ _ _ us hl => match us, hl with | [_, _], _ => rfl
      g_give_answer := d_give_answer.1
      F_grant_wish := d_grant_wish.2
      b_grant_wish := d_grant_wish.2.binds (ps := ["world", "numbers"]) fun _ _ _ _ _ _ us hl => match us, hl with | [_, _], _ => rfl
      g_grant_wish := d_grant_wish.1
      F_nudge_guests := d_nudge_guests.2
      b_nudge_guests := d_nudge_guests.2.binds (ps := ["world", "numbers"]) fun _ _ _ _ _ _ us hl => match us, hl with | [_, _], _ => rfl
      g_nudge_guests := d_nudge_guests.1
      F_press_answer := d_press_answer.2
      b_press_answer := d_press_answer.2.binds (ps := ["world", "numbers"]) fun _ _ _ _ _ _ us hl => match us, hl with | [_, _], _ => rfl
      g_press_answer := d_press_answer.1
      F_take_letter := d_take_letter.2
      b_take_letter := d_take_letter.2.binds (ps := ["world", "numbers"]) fun _ _ _ _ _ _ us hl => match us, hl with | [_, _], _ => rfl
      g_take_letter := d_take_letter.1
      F_keep_letter := d_keep_letter.2
      b_keep_letter := d_keep_letter.2.binds (ps := ["world", "numbers"]) fun _ _ _ _ _ _ us hl => match us, hl with | [_, _], _ => rfl
      g_keep_letter := d_keep_letter.1
      F_lose_letter := d_lose_letter.2
      b_lose_letter := d_lose_letter.2.binds (ps := ["world", "numbers"]) fun _ _ _ _ _ _ us hl => match us, hl with | [_, _], _ => rfl
      g_lose_letter := d_lose_letter.1
      F_show_letters := d_show_letters.2
      b_show_letters := d_show_letters.2.binds (ps := ["world", "numbers"]) fun _ _ _ _ _ _ us hl => match us, hl with | [_, _], _ => rfl
      g_show_letters := d_show_letters.1
      F_show_host := d_show_host.2
      b_show_host := d_show_host.2.binds (ps := ["world", "numbers"]) fun _ _ _ _ _ _ us hl => match us, hl with | [_, _], _ => rfl
      g_show_host := d_show_host.1
      F_show_copy := d_show_copy.2
      b_show_copy := d_show_copy.2.binds (ps := ["world", "numbers"]) fun _ _ _ _ _ _ us hl => match us, hl with | [_, _], _ => rfl
      g_show_copy := d_show_copy.1
      F_row_for := d_row_for.2
      b_row_for := d_row_for.2.binds (ps := ["world", "person", "meeting"]) fun _ _ _ _ _ _ us hl => match us, hl with | [_, _, _], _ => rfl
      g_row_for := d_row_for.1
      F_show_person := d_show_person.2
      b_show_person := d_show_person.2.binds (ps := ["world", "numbers"]) fun _ _ _ _ _ _ us hl => match us, hl with | [_, _], _ => rfl
      g_show_person := d_show_person.1
      F_end_of_call := d_end_of_call.2
      b_end_of_call := d_end_of_call.2.binds (ps := ["calls", "start"]) fun _ _ _ _ _ _ us hl => match us, hl with | [_, _], _ => rfl
      g_end_of_call := d_end_of_call.1
      F_answers := d_answers.2
      b_answers := d_answers.2.binds (ps := ["calls"]) fun _ _ _ _ _ _ us hl => match us, hl with | [_], _ => rfl
      g_answers := d_answers.1
      g_SIZES := t_SIZES.1
      t_SIZES := ⟨_, Cw.kdict_of t_SIZES.2 rfl (by decide), rfl⟩
      g_CALLS := t_CALLS.1
      t_CALLS := ⟨_, Cw.kdict_of t_CALLS.2 rfl (by decide), rfl⟩
    }
    have e := hmg.symm.trans d_answers.1
    cases e
    exact ⟨_, fun s us hu => match us, hu with | [_], _ => .of_eq rfl, fun base _ _ => Cw.ok_answers T U (Cw.sizes_ok U) (Cw.calls_ok T U)⟩
  case S =>
    intro K H xs a hO hwi hask hx
    cases hx with
    | cons h1 h2 =>
      cases h2
      cases h1 with
      | lst hs ha =>
        have e := L2.ints_dw a.1 _ ha
        subst e
        have q : ((Codec.inLen 0 1400 a.1 && a.1.all (Codec.inInt 0 200000)) && true) = true := hwi
        rw [Bool.and_eq_true, Bool.and_eq_true] at q
        refine ⟨_, a.1, rfl, hs, fun z hz => ?_, hask, fun H' p hp => .lst (L2.SqL.of hp) (L2.dw_ints _)⟩
        have q2 := List.all_eq_true.mp q.1.2 z hz
        exact (Codec.inInt_iff.mp q2).1
