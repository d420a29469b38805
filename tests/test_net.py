"""The net: room for 100, and take, keep and lose (points 10, 11, 12)."""

from lines import LineCase, answer, ask, copy, guests_of, keep, last, leave, letters, lose, move, new, nudge, off, press
from lines import run, sent, take

# 4 letters, then 4 each time: 100.
FULL = [new(0, 10, 1, 2, 3, 4)] + [nudge(0)] * 24
HEARD = [new(0, 10, 1), take(0)]
# Words to 1, 2, 3, 4, then person 1's answer: each letter another.
FIVE = [new(0, 10, 1, 2, 3, 4), keep(0), answer(1, 0, 3, 6)]
ROWS = [[0, 1, 0, 0, 1, 1, 10, 0, 1], [0, 2, 0, 0, 1, 1, 10, 0, 1], [0, 3, 0, 0, 1, 1, 10, 0, 1],
        [0, 4, 0, 0, 1, 1, 10, 0, 1], [1, 0, 1, 0, 1, 1, 3, 5]]


class Room(LineCase):
    def test_100_have_room(self):
        self.assertEqual(last(*FULL[:-1], letters())[0], 96)
        self.assertEqual(last(*FULL, letters())[0], 100)

    def test_a_word_without_room_is_lost_but_was_sent(self):
        before = sent(*FULL)
        for call, told in (nudge(0), 4), (off(0), 4), (move(0, 20), 2), (leave(0, 1), 3), (new(1, 5, 2), 1):
            self.assertEqual(last(*FULL, call), [told])
            self.assertEqual(sent(*FULL, call), before)
        self.assertEqual([row[1] for row in guests_of(0, *FULL, move(0, 20))], [2, 2, 2, 2])
        self.assertEqual([row[1] for row in guests_of(0, *FULL, nudge(0))], [1, 1, 1, 1])
        # Person 1's third word is lost where the second one was lost, too.
        self.assertEqual(last(*FULL, leave(0, 1), ask(0, 1)), [4])
        self.assertEqual(sent(*FULL, leave(0, 1), ask(0, 1)), before)
        self.assertEqual(guests_of(0, *FULL, leave(0, 1), ask(0, 1))[0], [1, 3, 1, 0, 0, -1])

    def test_an_answer_without_room_is_lost_but_was_given(self):
        line = FULL + [take(0), new(1, 5, 2), answer(1, 0, 2, 31)]
        self.assertEqual(run(*line)[-1], [1])
        self.assertEqual(last(*line, copy(1, 0)), [1, 1, 10, 0, 1, 1, 2, 30])
        rows = sent(*line)
        self.assertEqual(len(rows), 100)
        self.assertEqual(rows[-1], [0, 2, 1, 1, 1, 1, 5, 0, 1])

    def test_what_finds_room_goes_and_the_rest_is_lost(self):
        for taken in take, lose:
            line = FULL + [taken(0), taken(0), move(0, 20)]
            rows = sent(*line)
            self.assertEqual(len(rows), 100)
            self.assertEqual(rows[98:], [[0, 1, 0, 0, 2, 2, 20, 0, 1], [0, 2, 0, 0, 2, 2, 20, 0, 1]])
            self.assertEqual([row[1] for row in guests_of(0, *line)], [2, 2, 2, 2])

    def test_what_is_kept_makes_no_room(self):
        before = sent(*FULL)
        self.assertEqual(sent(*FULL, keep(0), answer(1, 0, 1)), before)
        self.assertEqual(sent(*FULL, keep(0), answer(1, 0, 1), press(1, 0)), before)
        self.assertEqual(sent(*FULL, keep(0), answer(1, 0, 1), lose(7), press(1, 0)),
                         before[:7] + before[8:] + [[1, 0, 1, 0, 1, 1, 1, -1]])

    def test_last_letter_of_100(self):
        self.assertEqual(run(*FULL, take(99), take(99))[-2:], [[1], [-3]])
        self.assertEqual(run(*FULL, lose(99), lose(99))[-2:], [[0], [-3]])
        self.assertEqual(run(*FULL, keep(99), keep(99), keep(100))[-3:], [[1], [0], [-3]])
        for call in take(100), keep(100), lose(100), take(200), keep(200), lose(200):
            self.assert_refused(-3, FULL, call)


class NoSuchLetter(LineCase):
    def test_no_letters(self):
        for call in take(0), keep(0), lose(0), take(1), keep(1), lose(1):
            self.assert_refused(-3, [], call)
            self.assert_refused(-3, [new(0, 10)], call)
            self.assert_refused(-3, HEARD, call)

    def test_the_one_behind_the_last(self):
        for call, answered in (take(4), 2), (keep(4), 2), (lose(4), 0):
            self.assertEqual(last(*FIVE, call), [answered])
        for call in take(5), keep(5), lose(5), take(200), keep(200), lose(200):
            self.assert_refused(-3, FIVE, call)

    def test_the_row_is_shorter_behind_take_and_lose(self):
        for before in take(0), lose(0):
            for call in take(4), keep(4), lose(4):
                self.assert_refused(-3, FIVE + [before], call)
        self.assertEqual(run(*FIVE, keep(0), take(4))[-1], [2])


class Take(LineCase):
    def test_is_taken_out_and_those_behind_move_up(self):
        for letter in range(5):
            self.assertEqual(sent(*FIVE, take(letter)), ROWS[:letter] + ROWS[letter + 1:])

    def test_is_handed_over(self):
        self.assertEqual(run(*FIVE, take(1), copy(2, 0))[-2:], [[1], [1, 1, 10, 0, 1, 0, 0, -1]])
        self.assertEqual(last(*FIVE, take(4)), [2])
        self.assertEqual(guests_of(0, *FIVE, take(4))[0], [1, 1, 1, 1, 3, 5])

    def test_of_no_use_is_taken_out_too(self):
        self.assertEqual(run(*HEARD, nudge(0), take(0), letters())[-2:], [[0], [0]])

    def test_the_next_one_has_its_number(self):
        self.assertEqual(run(*FIVE, take(1), take(1), take(1), copy(2, 0), copy(3, 0), copy(4, 0))[-6:],
                         [[1], [1], [1]] + [[1, 1, 10, 0, 1, 0, 0, -1]] * 3)


class Keep(LineCase):
    def test_lies_on_where_it_lay(self):
        for letter in range(5):
            self.assertEqual(sent(*FIVE, keep(letter)), ROWS)
            self.assertEqual(sent(*FIVE, keep(letter), keep(letter)), ROWS)

    def test_is_handed_over(self):
        self.assertEqual(run(*FIVE, keep(1), copy(2, 0))[-2:], [[1], [1, 1, 10, 0, 1, 0, 0, -1]])
        self.assertEqual(last(*FIVE, keep(4)), [2])
        self.assertEqual(guests_of(0, *FIVE, keep(4))[0], [1, 1, 1, 1, 3, 5])

    def test_comes_twice(self):
        self.assertEqual(run(*FIVE, keep(1), keep(1), take(1), take(1))[-4:], [[1], [0], [0], [1]])
        self.assertEqual(run(*FIVE, keep(4), keep(4), take(4), take(4))[-4:], [[2], [0], [0], [-3]])

    def test_of_no_use_lies_on_too(self):
        self.assertEqual(last(*FIVE, keep(0)), [0])
        self.assertEqual(sent(*FIVE, keep(0)), ROWS)

    def test_tells_what_it_told_when_it_was_sent(self):
        line = FIVE + [move(0, 20), keep(1)]
        self.assertEqual(last(*line, copy(2, 0)), [1, 1, 10, 0, 1, 0, 0, -1])
        self.assertEqual(sent(*line)[:5], ROWS)

    def test_a_kept_word_stays_as_it_was_whatever_becomes_of_the_copy(self):
        line = FIVE + [answer(1, 0, 1), move(0, 20), take(6), off(0), take(9)]
        self.assertEqual(last(*line, copy(1, 0)), [3, 2, 20, 1, 1, 2, 0, -1])
        self.assertEqual(sent(*line)[:5], ROWS)


class Lose(LineCase):
    def test_is_taken_out_and_those_behind_move_up(self):
        for letter in range(5):
            self.assertEqual(last(*FIVE, lose(letter)), [0])
            self.assertEqual(sent(*FIVE, lose(letter)), ROWS[:letter] + ROWS[letter + 1:])

    def test_is_not_handed_over(self):
        self.assertEqual(last(*FIVE, lose(1), copy(2, 0)), [-4])
        self.assertEqual(guests_of(0, *FIVE, lose(4)), guests_of(0, *FIVE))

    def test_was_sent_all_the_same(self):
        self.assertEqual([row[1] for row in guests_of(0, new(0, 10, 1, 2), lose(0), lose(0))], [1, 1])
        self.assertEqual(last(*FIVE, lose(4), answer(1, 0, 1)), [2])

    def test_of_two_alike_one_is_left(self):
        line = [new(0, 10, 1), nudge(0), lose(0)]
        self.assertEqual(sent(*line), ROWS[:1])
        self.assertEqual(last(*line, take(0)), [1])
