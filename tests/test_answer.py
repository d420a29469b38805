"""Point 6: answer."""

from lines import LineCase, answer, ask, copy, guests_of, last, leave, move, new, off, run, sent, take

# Person 1 has a copy; person 2 has none, and their word is the one letter on its way.
HEARD = [new(3, 10, 1, 2), take(0)]


class AnswerCall(LineCase):
    def test_the_copy_has_it(self):
        self.assertEqual(last(*HEARD, copy(1, 0)), [1, 1, 10, 0, 1, 0, 0, -1])
        self.assertEqual(run(*HEARD, answer(1, 0, 2, 31), copy(1, 0))[2:], [[1], [1, 1, 10, 0, 1, 1, 2, 30]])

    def test_a_later_one_takes_its_place(self):
        self.assertEqual(run(*HEARD, answer(1, 0, 2, 31), answer(1, 0, 3), copy(1, 0))[2:],
                         [[1], [2], [1, 1, 10, 0, 1, 2, 3, -1]])

    def test_it_goes_to_the_host(self):
        self.assertEqual(sent(*HEARD, answer(1, 0, 2, 31), answer(1, 0, 1))[1:],
                         [[1, 3, 1, 0, 1, 1, 2, 30], [1, 3, 1, 0, 2, 1, 1, -1]])

    def test_the_host_does_not_know_of_it_yet(self):
        self.assertEqual(guests_of(0, *HEARD, answer(1, 0, 1)), guests_of(0, *HEARD))

    def test_goes_with_the_round_of_the_copy(self):
        line = HEARD + [move(0, 20), answer(1, 0, 1)]
        self.assertEqual(sent(*line)[-1], [1, 3, 1, 0, 1, 1, 1, -1])
        # Person 1 hears of the move; they go on counting their answers.
        later = line + [take(1), answer(1, 0, 2)]
        self.assertEqual(last(*later), [2])
        self.assertEqual(sent(*later)[-1], [1, 3, 1, 0, 2, 2, 2, -1])

    def test_each_meeting_has_its_own_count(self):
        line = [new(3, 10, 1), new(0, 10, 1), take(0), take(0)]
        self.assertEqual(run(*line, answer(1, 0, 1), answer(1, 0, 1), answer(1, 1, 1))[4:], [[1], [2], [1]])

    def test_each_guest_has_their_own_count(self):
        self.assertEqual(run(*HEARD, take(0), answer(1, 0, 1), answer(1, 0, 1), answer(2, 0, 1))[3:], [[1], [2], [1]])

    def test_what(self):
        for what in 1, 2, 3:
            self.assertEqual(last(*HEARD, answer(1, 0, what), copy(1, 0))[6], what)
        for what in 0, 4, 9:
            self.assert_refused(-1, HEARD, answer(1, 0, what))

    def test_wish(self):
        for wish in 0, 1, 100001:
            line = HEARD + [answer(1, 0, 1, wish)]
            self.assertEqual(last(*line), [1])
            self.assertEqual(last(*line, copy(1, 0))[7], wish - 1)
            self.assertEqual(sent(*line)[-1][7], wish - 1)
        for wish in 100002, 200000:
            self.assert_refused(-1, HEARD, answer(1, 0, 1, wish))

    def test_no_such_meeting(self):
        self.assert_refused(-3, [], answer(1, 0, 1))
        self.assert_refused(-3, HEARD, answer(1, 1, 1))

    def test_no_copy(self):
        for person in 0, 2, 3, 4, 5, 20:
            self.assert_refused(-4, HEARD, answer(person, 0, 1))
        self.assert_refused(-4, HEARD + [new(3, 10, 1)], answer(1, 1, 1))

    def test_by_the_copy_it_is_called_off(self):
        line = HEARD + [off(0)]
        self.assertEqual(last(*line, answer(1, 0, 1)), [1])
        self.assert_refused(-2, line + [take(1)], answer(1, 0, 1))

    def test_by_the_copy_they_are_not_asked(self):
        line = HEARD + [leave(0, 1)]
        self.assertEqual(last(*line, answer(1, 0, 1)), [1])
        self.assert_refused(-2, line + [take(1)], answer(1, 0, 1))
        self.assert_refused(-2, line + [take(1), ask(0, 1)], answer(1, 0, 1))
        self.assertEqual(last(*line, take(1), ask(0, 1), take(1), answer(1, 0, 1)), [1])

    def test_which_refusal_comes_first(self):
        wrong = [(0, 0), (4, 0), (1, 100002)]
        for what, wish in wrong:
            self.assert_refused(-3, HEARD, answer(1, 1, what, wish))
            self.assert_refused(-1, HEARD, answer(2, 0, what, wish))
            self.assert_refused(-1, HEARD, answer(5, 0, what, wish))
            self.assert_refused(-1, HEARD + [off(0), take(1)], answer(1, 0, what, wish))
            self.assert_refused(-1, HEARD + [leave(0, 1), take(1)], answer(1, 0, what, wish))
        self.assert_refused(-3, HEARD, answer(2, 1, 1))

    def test_no_copy_goes_ahead_of_what_the_host_knows(self):
        self.assert_refused(-4, HEARD + [off(0)], answer(2, 0, 1))
        self.assert_refused(-4, HEARD + [leave(0, 2)], answer(2, 0, 1))
