"""Points 13, 14 and 15: letters, host, copy."""

from lines import LineCase, answer, ask, copy, grant, host, keep, last, leave, letters, lose, move, new, nudge, off
from lines import press, run, sent, take

HEARD = [new(0, 10, 1), take(0)]
# Each number of what is shown is another one, where it can be: host 2, round 3, time 40.
MOVED = [new(2, 10, 4, 1), move(0, 30), move(0, 40)]
ANSWERED = MOVED + [take(4), answer(4, 0, 3), answer(4, 0, 1), answer(4, 0, 2, 71)]


class Letters(LineCase):
    def test_none(self):
        self.assertEqual(last(letters()), [0])
        self.assertEqual(last(new(0, 10), letters()), [0])
        self.assertEqual(last(*HEARD, letters()), [0])

    def test_words(self):
        self.assertEqual(last(*MOVED, lose(0), lose(0), lose(0), lose(0), letters()),
                         [2, 0, 4, 2, 0, 3, 3, 40, 0, 1, 0, 1, 2, 0, 3, 3, 40, 0, 1])

    def test_words_that_tell_who_is_not_asked_and_that_it_is_called_off(self):
        self.assertEqual(sent(*MOVED, leave(0, 4))[6:], [[0, 4, 2, 0, 4, 3, 40, 0, 0]])
        self.assertEqual(sent(*MOVED, off(0))[6:], [[0, 4, 2, 0, 4, 3, 40, 1, 1], [0, 1, 2, 0, 4, 3, 40, 1, 1]])
        self.assertEqual(sent(*MOVED, leave(0, 4), off(0), nudge(0))[8:],
                         [[0, 4, 2, 0, 4, 3, 40, 1, 0], [0, 1, 2, 0, 4, 3, 40, 1, 1]])

    def test_answers_with_and_without_a_wish(self):
        self.assertEqual(sent(*ANSWERED)[5:],
                         [[1, 2, 4, 0, 1, 3, 3, -1], [1, 2, 4, 0, 2, 3, 1, -1], [1, 2, 4, 0, 3, 3, 2, 70]])
        self.assertEqual(sent(*HEARD, answer(1, 0, 1, 1)), [[1, 0, 1, 0, 1, 1, 1, 0]])
        self.assertEqual(sent(*HEARD, answer(1, 0, 1, 100001)), [[1, 0, 1, 0, 1, 1, 1, 100000]])

    def test_both_kinds_in_the_order_in_which_they_were_sent(self):
        self.assertEqual(last(*HEARD, answer(1, 0, 3), new(2, 5, 4), press(1, 0), letters()),
                         [3, 1, 0, 1, 0, 1, 1, 3, -1, 0, 4, 2, 1, 1, 1, 5, 0, 1, 1, 0, 1, 0, 1, 1, 3, -1])

    def test_changes_nothing(self):
        self.assertEqual(run(*ANSWERED, letters(), letters())[-2], last(*ANSWERED, letters()))
        self.assertEqual(run(*ANSWERED, letters(), letters())[-1], last(*ANSWERED, letters()))


class Host(LineCase):
    def test_no_guests(self):
        self.assertEqual(last(new(4, 100000), host(0)), [4, 1, 100000, 0, 0, 0])

    def test_each_number_at_its_place(self):
        self.assertEqual(last(*MOVED, host(0)), [2, 3, 40, 0, 0, 2, 4, 3, 1, 0, 0, -1, 1, 3, 1, 0, 0, -1])
        self.assertEqual(last(*ANSWERED, take(7), host(0)), [2, 3, 40, 0, 0, 2, 4, 3, 1, 3, 2, 70, 1, 3, 1, 0, 0, -1])
        self.assertEqual(last(*ANSWERED, take(6), host(0)), [2, 3, 40, 0, 1, 2, 4, 3, 1, 2, 1, -1, 1, 3, 1, 0, 0, -1])

    def test_called_off(self):
        self.assertEqual(last(*ANSWERED, take(6), off(0), host(0)),
                         [2, 3, 40, 1, 1, 2, 4, 4, 1, 2, 1, -1, 1, 4, 1, 0, 0, -1])

    def test_counts_yes_alone(self):
        line = [new(0, 10, 1, 2, 3, 4), take(0), take(0), take(0), take(0)]
        said = [answer(1, 0, 1), answer(2, 0, 2), answer(3, 0, 3), answer(4, 0, 1), take(0), take(0), take(0)]
        self.assertEqual(last(*line, *said, host(0))[4], 1)
        self.assertEqual(last(*line, *said, take(0), host(0))[4], 2)

    def test_who_is_not_asked_any_more_is_shown_with_their_answer_but_not_counted(self):
        line = [new(0, 10, 1, 2), take(0), take(0), answer(1, 0, 1, 31), answer(2, 0, 1), take(0), take(0)]
        self.assertEqual(last(*line, host(0)), [0, 1, 10, 0, 2, 2, 1, 1, 1, 1, 1, 30, 2, 1, 1, 1, 1, -1])
        self.assertEqual(last(*line, leave(0, 1), host(0)), [0, 1, 10, 0, 1, 2, 1, 2, 0, 1, 1, 30, 2, 1, 1, 1, 1, -1])
        self.assertEqual(last(*line, leave(0, 1), ask(0, 1), host(0)),
                         [0, 1, 10, 0, 2, 2, 1, 3, 1, 1, 1, 30, 2, 1, 1, 1, 1, -1])

    def test_the_one_asked_last_stands_last(self):
        self.assertEqual(last(new(0, 10, 4, 2), ask(0, 3), leave(0, 4), ask(0, 4), host(0))[6::6], [4, 2, 3])

    def test_no_such_meeting(self):
        self.assert_refused(-3, [], host(0))
        for meeting in 1, 6, 20:
            self.assert_refused(-3, HEARD, host(meeting))
        self.assert_refused(-3, [new(0, 10)] * 6, host(6))


class CopyCall(LineCase):
    def test_each_number_at_its_place(self):
        self.assertEqual(last(*ANSWERED, copy(4, 0)), [3, 3, 40, 0, 1, 3, 2, 70])
        self.assertEqual(last(*ANSWERED, answer(4, 0, 1), copy(4, 0)), [3, 3, 40, 0, 1, 4, 1, -1])
        self.assertEqual(last(*MOVED, take(4), copy(4, 0)), [3, 3, 40, 0, 1, 0, 0, -1])
        self.assertEqual(last(*ANSWERED, leave(0, 4), take(8), copy(4, 0)), [4, 3, 40, 0, 0, 3, 2, 70])
        self.assertEqual(last(*ANSWERED, off(0), take(8), copy(4, 0)), [4, 3, 40, 1, 1, 3, 2, 70])

    def test_is_what_was_told_and_not_what_the_host_has_now(self):
        self.assertEqual(last(*HEARD, move(0, 20), off(0), copy(1, 0)), [1, 1, 10, 0, 1, 0, 0, -1])

    def test_of_a_meeting_called_off(self):
        self.assertEqual(last(*HEARD, off(0), keep(0), copy(1, 0)), [2, 1, 10, 1, 1, 0, 0, -1])

    def test_none(self):
        for person in 0, 2, 3, 4, 5, 20:
            self.assert_refused(-4, HEARD, copy(person, 0))
        self.assert_refused(-4, [new(0, 10, 1)], copy(1, 0))
        self.assert_refused(-4, [new(0, 10, 1), lose(0)], copy(1, 0))
        self.assert_refused(-4, HEARD + [new(0, 10, 1)], copy(1, 1))

    def test_no_such_meeting_comes_first(self):
        self.assert_refused(-3, [], copy(1, 0))
        for person in 0, 1, 2, 5, 20:
            for meeting in 1, 6, 20:
                self.assert_refused(-3, HEARD, copy(person, meeting))


class BroughtToTheSame(LineCase):
    def test_by_a_few_letters_more(self):
        line = [new(0, 10, 1, 2), take(0), answer(1, 0, 1, 31), take(1), grant(0, 1), take(1), nudge(0), take(3),
                answer(2, 0, 1), take(3)]
        self.assertEqual(run(*line, host(0), copy(1, 0), copy(2, 0))[-3:], [
            [0, 2, 30, 0, 1, 2, 1, 2, 1, 1, 0, -1, 2, 2, 1, 1, 1, -1],
            [2, 2, 30, 0, 1, 1, 0, -1],
            [2, 2, 30, 0, 1, 1, 1, -1],
        ])
