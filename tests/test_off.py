"""Point 3: off."""

from lines import LineCase, answer, guests_of, host, last, leave, new, off, run, sent, take

TWO = [new(0, 10, 1, 2), take(0), take(0)]


class Off(LineCase):
    def test_is_called_off(self):
        self.assertEqual(last(*TWO, host(0))[:4], [0, 1, 10, 0])
        self.assertEqual(last(*TWO, off(0), host(0))[:4], [0, 1, 10, 1])

    def test_tells_how_many_were_told(self):
        self.assertEqual(last(*TWO, off(0)), [2])
        self.assertEqual(last(new(0, 10), off(0)), [0])
        self.assertEqual(last(new(0, 10, 4, 3, 2, 1), off(0)), [4])

    def test_all_that_are_asked_are_told(self):
        self.assertEqual(sent(*TWO, off(0)), [[0, 1, 0, 0, 2, 1, 10, 1, 1], [0, 2, 0, 0, 2, 1, 10, 1, 1]])

    def test_who_is_not_asked_is_not_told(self):
        line = TWO + [leave(0, 1), take(0), off(0)]
        self.assertEqual(last(*line), [1])
        self.assertEqual(sent(*line), [[0, 2, 0, 0, 2, 1, 10, 1, 1]])
        self.assertEqual(guests_of(0, *line), [[1, 2, 0, 0, 0, -1], [2, 2, 1, 0, 0, -1]])

    def test_answers_and_wishes_stay(self):
        line = TWO + [answer(1, 0, 1, 31), take(0), off(0)]
        self.assertEqual(guests_of(0, *line)[0], [1, 2, 1, 1, 1, 30])

    def test_other_meetings_stay(self):
        self.assertEqual(run(*TWO, new(1, 11, 2), off(0), host(1))[-1][:4], [1, 1, 11, 0])

    def test_no_such_meeting(self):
        self.assert_refused(-3, [], off(0))
        self.assert_refused(-3, TWO + [off(0)], off(1))
        self.assert_refused(-3, TWO, off(20))

    def test_called_off_already(self):
        self.assert_refused(-2, TWO + [off(0)], off(0))
        self.assert_refused(-2, [new(0, 10), off(0)], off(0))
