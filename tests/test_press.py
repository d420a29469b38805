"""Point 9: press."""

from lines import LineCase, answer, ask, copy, grant, guests_of, last, leave, lose, move, new, nudge, off, press, run
from lines import sent, take

# Person 1 has a copy; person 2 has none, and their word is the one letter on its way.
HEARD = [new(3, 10, 1, 2), take(0)]
# Person 1 has said no, and wishes for 30; that letter is lost.
SAID = HEARD + [answer(1, 0, 2, 31), lose(1)]


class Press(LineCase):
    def test_the_last_answer_goes_once_more(self):
        self.assertEqual(last(*SAID, press(1, 0)), [1])
        self.assertEqual(sent(*SAID)[1:], [])
        self.assertEqual(sent(*SAID, press(1, 0))[1:], [[1, 3, 1, 0, 1, 1, 2, 30]])

    def test_each_answer_with_and_without_a_wish(self):
        for what in 1, 2, 3:
            for wish in 0, 1, 100001:
                line = HEARD + [answer(1, 0, what, wish), press(1, 0)]
                self.assertEqual(sent(*line)[1:], [[1, 3, 1, 0, 1, 1, what, wish - 1]] * 2)

    def test_it_is_the_last_and_no_earlier_one(self):
        line = SAID + [answer(1, 0, 3), answer(1, 0, 1, 41), press(1, 0)]
        self.assertEqual(last(*line), [3])
        self.assertEqual(sent(*line)[-1], [1, 3, 1, 0, 3, 1, 1, 40])

    def test_makes_no_new_count(self):
        line = SAID + [press(1, 0), press(1, 0), press(1, 0)]
        self.assertEqual(run(*line)[-3:], [[1], [1], [1]])
        self.assertEqual(sent(*line)[1:], [[1, 3, 1, 0, 1, 1, 2, 30]] * 3)
        self.assertEqual(last(*line, copy(1, 0)), [1, 1, 10, 0, 1, 1, 2, 30])
        self.assertEqual(last(*line, answer(1, 0, 1)), [2])

    def test_the_copy_and_what_the_host_knows_stay(self):
        self.assertEqual(last(*SAID, press(1, 0), copy(1, 0)), last(*SAID, copy(1, 0)))
        self.assertEqual(guests_of(0, *SAID, press(1, 0)), guests_of(0, *SAID))

    def test_counts_where_the_answer_was_lost(self):
        line = SAID + [press(1, 0), take(1)]
        self.assertEqual(last(*line), [2])
        self.assertEqual(guests_of(0, *line)[0], [1, 1, 1, 1, 2, 30])

    def test_is_of_no_use_where_the_host_knows_it(self):
        line = SAID + [press(1, 0), press(1, 0), take(1)]
        self.assertEqual(last(*line, take(1)), [0])
        self.assertEqual(guests_of(0, *line, take(1)), guests_of(0, *line))

    def test_the_host_has_moved_it_and_the_guest_has_not_heard(self):
        for changed in move(0, 20), move(0, 10):
            line = SAID + [changed, press(1, 0)]
            self.assertEqual(last(*line), [1])
            self.assertEqual(sent(*line)[-1], [1, 3, 1, 0, 1, 1, 2, 30])
            self.assertEqual(last(*line, take(3)), [0])

    def test_the_host_has_called_it_off_or_taken_the_guest_off_and_they_have_not_heard(self):
        for changed in off(0), leave(0, 1):
            line = SAID + [changed, press(1, 0)]
            self.assertEqual(last(*line), [1])
            self.assertEqual(sent(*line)[-1], [1, 3, 1, 0, 1, 1, 2, 30])

    def test_by_the_copy_it_is_called_off(self):
        line = SAID + [off(0), take(1)]
        self.assertEqual(last(*line, copy(1, 0)), [2, 1, 10, 1, 1, 1, 2, 30])
        self.assertEqual(last(*line, press(1, 0)), [1])
        self.assertEqual(sent(*line, press(1, 0))[-1], [1, 3, 1, 0, 1, 1, 2, 30])

    def test_by_the_copy_they_are_not_asked(self):
        line = SAID + [leave(0, 1), take(1)]
        self.assertEqual(last(*line, copy(1, 0)), [2, 1, 10, 0, 0, 1, 2, 30])
        self.assertEqual(last(*line, press(1, 0)), [1])
        self.assertEqual(sent(*line, press(1, 0))[-1], [1, 3, 1, 0, 1, 1, 2, 30])

    def test_told_of_the_same_round_again(self):
        line = SAID + [leave(0, 1), ask(0, 1), take(2), press(1, 0)]
        self.assertEqual(last(*line), [1])
        self.assertEqual(sent(*line)[-1], [1, 3, 1, 0, 1, 1, 2, 30])

    def test_each_has_their_own(self):
        line = [new(3, 10, 1, 4), new(0, 20, 1), take(0), take(0), take(0), answer(1, 0, 1), answer(1, 1, 3, 6),
                answer(4, 0, 2), answer(4, 0, 3), lose(0), lose(0), lose(0), lose(0)]
        self.assertEqual(run(*line, press(1, 1), press(4, 0), press(1, 0))[-3:], [[1], [2], [1]])
        self.assertEqual(sent(*line, press(1, 1), press(4, 0), press(1, 0)),
                         [[1, 0, 1, 1, 1, 1, 3, 5], [1, 3, 4, 0, 2, 1, 3, -1], [1, 3, 1, 0, 1, 1, 1, -1]])

    def test_without_room_it_is_lost(self):
        full = SAID + [nudge(0)] * 50
        before = sent(*full)
        self.assertEqual(len(before), 100)
        self.assertEqual(last(*full, press(1, 0)), [1])
        self.assertEqual(sent(*full, press(1, 0)), before)
        self.assertEqual(sent(*full, lose(0), press(1, 0)), before[1:] + [[1, 3, 1, 0, 1, 1, 2, 30]])


class PressRefused(LineCase):
    def test_no_such_meeting(self):
        self.assert_refused(-3, [], press(1, 0))
        for meeting in 1, 6, 20:
            self.assert_refused(-3, SAID, press(1, meeting))

    def test_no_copy(self):
        for person in 0, 2, 3, 4, 5, 20:
            self.assert_refused(-4, SAID, press(person, 0))
        self.assert_refused(-4, SAID + [new(3, 10, 1)], press(1, 1))

    def test_no_answer_given_yet(self):
        self.assert_refused(-2, HEARD, press(1, 0))
        self.assert_refused(-2, HEARD + [off(0), take(1)], press(1, 0))
        self.assert_refused(-2, HEARD + [leave(0, 1), take(1)], press(1, 0))

    def test_told_of_another_round_since(self):
        for changed in move(0, 20), move(0, 10):
            line = SAID + [changed, take(1)]
            self.assertEqual(last(*line, copy(1, 0))[5:], [1, 0, -1])
            self.assert_refused(-2, line, press(1, 0))

    def test_their_own_wish_was_granted(self):
        self.assert_refused(-2, HEARD + [answer(1, 0, 1, 31), take(1), grant(0, 1), take(1)], press(1, 0))

    def test_an_answer_for_the_new_round_goes_with_that_round(self):
        line = SAID + [move(0, 20), take(1), answer(1, 0, 1), press(1, 0)]
        self.assertEqual(last(*line), [2])
        self.assertEqual(sent(*line)[-2:], [[1, 3, 1, 0, 2, 2, 1, -1]] * 2)

    def test_which_refusal_comes_first(self):
        # No such meeting, and no copy; no such meeting, and no answer to the one that there is.
        for person in 0, 1, 2, 5, 20:
            self.assert_refused(-3, HEARD, press(person, 1))
        # No copy, and so no answer; what the host has is another matter.
        self.assert_refused(-4, HEARD, press(2, 0))
        self.assert_refused(-4, HEARD + [off(0)], press(2, 0))
        self.assert_refused(-4, HEARD + [leave(0, 2)], press(2, 0))
