"""How a list of calls is read, how the answers stand, and that nothing is kept or changed."""

import unittest

from crossedletters.meetings import answers
from lines import answer, ask, copy, flatten, grant, host, keep, leave, letters, lose, move, new, nudge, off, press
from lines import shown, take

EVERY = [new(0, 10, 1, 2), take(0), answer(1, 0, 2, 31), press(1, 0), take(1), keep(1), lose(1), grant(0, 1),
         move(0, 5), ask(0, 3), leave(0, 2), nudge(0), letters(), host(0), copy(1, 0), shown(0), shown(1), off(0),
         new(1, 2), new(5, 2), move(9, 1), press(1, 9), take(200), keep(200), lose(200), host(9), copy(4, 0), shown(5)]


class Interface(unittest.TestCase):
    def test_how_many_numbers_stand_ahead_of_them(self):
        self.assertEqual(answers([0, 0, 10, 0]), [1, 0])
        self.assertEqual(answers([12]), [1, 0])
        self.assertEqual(answers([0, 0, 10, 1, 1, 9, 0, 5, 1, 0, 2, 31, 9, 0, 6, 0, 1, 7, 3]),
                         [1, 0, 1, 1, 1, 1, 1, 2, 2, 2, 30, 1, -3])

    def test_calls_0_to_7(self):
        self.assertEqual(answers([0, 0, 10, 1, 1, 1, 0, 20, 3, 0, 2, 4, 0, 1, 5, 1, 0, 1, 0, 6, 0, 1, 7, 0, 2, 0]),
                         [1, 0, 1, 2, 1, 2, 1, 1, 1, -4, 1, -4, 1, 2, 1, 1])

    def test_calls_8_to_15(self):
        calls = [0, 0, 10, 1, 1, 10, 0, 11, 0, 5, 1, 0, 1, 0, 8, 1, 0, 9, 1, 12, 13, 0, 14, 1, 0, 15, 1]
        self.assertEqual(answers(calls),
                         [1, 0, 1, 1, 1, 0, 1, 1, 1, 1, 1, 2, 9, 1, 1, 0, 1, 0, 1, 1, 1, -1,
                          12, 0, 1, 10, 0, 1, 1, 1, 1, 1, 1, 1, -1, 8, 1, 1, 10, 0, 1, 1, 1, -1, 4, 1, 10, 0, 1])

    def test_guests_are_read_by_their_length(self):
        # A guest list that looks like calls, and calls behind a refused guest list.
        self.assertEqual(answers([0, 0, 10, 3, 3, 2, 1, 2, 0]), [1, 0, 1, 3])
        self.assertEqual(answers([0, 0, 10, 10, 12, 12, 12, 12, 12, 12, 12, 12, 12, 12, 0, 0, 10, 0, 12]),
                         [1, -1, 1, 0, 1, 0])

    def test_a_refusal_stands_alone(self):
        for call in (move(0, 1), off(0), ask(0, 1), leave(0, 1), answer(1, 0, 1), grant(0, 1), nudge(0), press(1, 0),
                     take(0), keep(0), lose(0), host(0), copy(1, 0)):
            self.assertEqual(answers(call), [1, -3])
        for call in new(5, 1), shown(5):
            self.assertEqual(answers(call), [1, -1])

    def test_100_calls(self):
        self.assertEqual(answers([7, 0] * 100), [1, -3] * 100)
        self.assertEqual(answers([15, 20] * 100), [1, -1] * 100)

    def test_1400_numbers(self):
        self.assertEqual(answers([0, 0, 0, 10, 1, 2, 3, 4, 5, 6, 7, 8, 9, 10] * 100), [1, -1] * 100)

    def test_what_is_handed_in_stays_as_it_was(self):
        calls = flatten(EVERY)
        before = list(calls)
        answers(calls)
        self.assertEqual(calls, before)

    def test_what_is_given_back_is_a_list_of_its_own(self):
        calls = flatten(EVERY)
        given_back = answers(calls)
        again = answers(calls)
        self.assertIsNot(given_back, again)
        self.assertIsNot(given_back, calls)
        self.assertIs(list, given_back.__class__)

    def test_two_runs_answer_the_same(self):
        calls = flatten(EVERY)
        first = answers(calls)
        answers(flatten([new(3, 4, 2)] * 7))
        self.assertEqual(answers(calls), first)
        self.assertEqual(answers([13, 0]), [1, -3])
        self.assertEqual(answers([12]), [1, 0])
        self.assertEqual(answers([15, 0]), [1, 0])

    def test_whole_numbers_alone(self):
        for number in answers(flatten(EVERY)):
            self.assertIs(number.__class__, int)
