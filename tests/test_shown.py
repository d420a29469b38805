"""Point 16: shown."""

from lines import LineCase, answer, ask, copy, grant, last, leave, letters, lose, move, new, nudge, off, run, shown
from lines import take

# Person 1 has a copy of person 0's meeting at 10.
HEARD = [new(0, 10, 1), take(0)]


class ShownAsHost(LineCase):
    def test_nothing(self):
        for person in range(5):
            self.assertEqual(last(shown(person)), [0])

    def test_a_meeting_of_their_own(self):
        for person in range(5):
            self.assertEqual(last(new(person, 10), shown(person)), [1, 10, 0, 4])

    def test_at_the_first_and_the_last_time(self):
        self.assertEqual(last(new(0, 100000), new(0, 0), shown(0)), [2, 0, 1, 4, 100000, 0, 4])

    def test_has_the_time_that_it_has_now(self):
        self.assertEqual(last(*HEARD, move(0, 20), shown(0)), [1, 20, 0, 4])
        self.assertEqual(last(*HEARD, answer(1, 0, 1, 31), take(0), grant(0, 1), shown(0)), [1, 30, 0, 4])

    def test_called_off(self):
        self.assertEqual(last(new(0, 10), off(0), shown(0)), [0])
        self.assertEqual(last(new(0, 10), new(0, 20), off(0), shown(0)), [1, 20, 1, 4])

    def test_whatever_the_guests_have(self):
        for call in leave(0, 1), answer(1, 0, 2), answer(1, 0, 1):
            self.assertEqual(last(*HEARD, call, take(0), shown(0)), [1, 10, 0, 4])

    def test_of_another_is_not_theirs(self):
        self.assertEqual(last(new(0, 10, 1), shown(1)), [0])
        self.assertEqual(last(new(0, 10, 1), shown(2)), [0])


class ShownAsGuest(LineCase):
    def test_without_a_copy(self):
        self.assertEqual(last(new(0, 10, 1), lose(0), shown(1)), [0])
        self.assertEqual(last(*HEARD, shown(2)), [0])

    def test_each_answer(self):
        self.assertEqual(last(*HEARD, shown(1)), [1, 10, 0, 0])
        self.assertEqual(last(*HEARD, answer(1, 0, 1), shown(1)), [1, 10, 0, 1])
        self.assertEqual(last(*HEARD, answer(1, 0, 2), shown(1)), [0])
        self.assertEqual(last(*HEARD, answer(1, 0, 3), shown(1)), [1, 10, 0, 3])

    def test_the_last_answer(self):
        self.assertEqual(last(*HEARD, answer(1, 0, 2), answer(1, 0, 1), shown(1)), [1, 10, 0, 1])
        self.assertEqual(last(*HEARD, answer(1, 0, 1), answer(1, 0, 2), shown(1)), [0])

    def test_the_answer_of_the_copy_and_not_the_one_that_the_host_knows(self):
        line = HEARD + [answer(1, 0, 1), take(0), answer(1, 0, 3)]
        self.assertEqual(last(*line, shown(1)), [1, 10, 0, 3])
        self.assertEqual(last(*line, answer(1, 0, 2), shown(1)), [0])

    def test_a_wish_is_not_shown(self):
        self.assertEqual(last(*HEARD, answer(1, 0, 1, 31), shown(1)), [1, 10, 0, 1])
        self.assertEqual(last(*HEARD, answer(1, 0, 2, 31), shown(1)), [0])

    def test_counts_by_what_it_was_told(self):
        line = HEARD + [answer(1, 0, 1)]
        for changed in move(0, 20), off(0), leave(0, 1):
            self.assertEqual(last(*line, changed, shown(1)), [1, 10, 0, 1])
        self.assertEqual(last(*line, move(0, 20), take(1), shown(1)), [1, 20, 0, 0])
        self.assertEqual(last(*line, off(0), take(1), shown(1)), [0])
        self.assertEqual(last(*line, leave(0, 1), take(1), shown(1)), [0])

    def test_asked_again(self):
        line = HEARD + [answer(1, 0, 3), lose(0), leave(0, 1), take(0), ask(0, 1)]
        self.assertEqual(last(*line, shown(1)), [0])
        self.assertEqual(last(*line, take(0), shown(1)), [1, 10, 0, 3])

    def test_a_no_is_none_any_more_when_they_hear_of_a_move(self):
        line = HEARD + [answer(1, 0, 2), move(0, 20)]
        self.assertEqual(last(*line, shown(1)), [0])
        self.assertEqual(last(*line, take(1), shown(1)), [1, 20, 0, 0])

    def test_a_no_stays_where_they_hear_of_the_same_round(self):
        line = HEARD + [answer(1, 0, 2), leave(0, 1), ask(0, 1), take(2)]
        self.assertEqual(run(*line, copy(1, 0), shown(1))[-2:], [[3, 1, 10, 0, 1, 1, 2, -1], [0]])

    def test_called_off_and_not_asked_as_first_heard(self):
        self.assertEqual(last(new(0, 10, 1), off(0), take(1), shown(1)), [0])
        self.assertEqual(last(new(0, 10, 1), leave(0, 1), take(1), shown(1)), [0])
        self.assertEqual(last(new(0, 10, 1), leave(0, 1), off(0), nudge(0), take(2), shown(1)), [0])


class ShownInOrder(LineCase):
    # Person 4 is the host of meetings 0, 3 and 5, and has copies of 1, 2 and 4; person 0 of 0, 3 and 5.
    MIXED = [new(4, 50, 0), new(0, 20, 4), new(0, 70, 4), new(4, 20, 0), new(0, 50, 4), new(4, 5, 0)] + [take(0)] * 6

    def test_by_times_then_by_numbers(self):
        self.assertEqual(last(*self.MIXED, shown(4)),
                         [6, 5, 5, 4, 20, 1, 0, 20, 3, 4, 50, 0, 4, 50, 4, 0, 70, 2, 0])
        self.assertEqual(last(*self.MIXED, shown(0)),
                         [6, 5, 5, 0, 20, 1, 4, 20, 3, 0, 50, 0, 0, 50, 4, 4, 70, 2, 4])

    def test_by_times_and_not_by_answers(self):
        line = [new(0, 20, 1)] * 3 + [take(0)] * 3 + [answer(1, 0, 3), answer(1, 1, 1)]
        self.assertEqual(last(*line, shown(1)), [3, 20, 0, 3, 20, 1, 1, 20, 2, 0])

    def test_by_the_times_of_the_copy(self):
        line = self.MIXED + [move(4, 1), move(1, 60), move(0, 65)]
        self.assertEqual(last(*line, shown(4)), [6, 5, 5, 4, 20, 1, 0, 20, 3, 4, 50, 4, 0, 65, 0, 4, 70, 2, 0])
        self.assertEqual(last(*line, take(0), take(0), take(0), shown(4)),
                         [6, 1, 4, 0, 5, 5, 4, 20, 3, 4, 60, 1, 0, 65, 0, 4, 70, 2, 0])

    def test_those_that_are_left_out_leave_the_others_in_order(self):
        line = self.MIXED + [off(3), answer(4, 1, 2), answer(4, 4, 1), off(2), leave(4, 4)]
        self.assertEqual(last(*line, shown(4)), [4, 5, 5, 4, 50, 0, 4, 50, 4, 1, 70, 2, 0])

    def test_changes_nothing(self):
        looks = [letters(), copy(4, 1), shown(4)]
        self.assertEqual(run(*self.MIXED, shown(4), *looks)[-3:], run(*self.MIXED, *looks)[-3:])


class ShownRefused(LineCase):
    def test_no_such_person(self):
        for person in 5, 6, 20:
            self.assert_refused(-1, [], shown(person))
            self.assert_refused(-1, HEARD, shown(person))

    def test_the_last_person(self):
        self.assertEqual(last(new(4, 10), shown(4)), [1, 10, 0, 4])
        self.assertEqual(last(new(0, 10, 4), take(0), shown(4)), [1, 10, 0, 0])
