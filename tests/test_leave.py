"""Point 5: leave."""

from lines import LineCase, answer, ask, guests_of, host, last, leave, new, off, sent, take

# Person 1 has said yes, and wishes for 30; no letter is on its way.
TWO = [new(0, 10, 1, 2), take(0), take(0), answer(1, 0, 1, 31), take(0)]


class Leave(LineCase):
    def test_is_not_asked_any_more_and_their_answer_stays(self):
        self.assertEqual(guests_of(0, *TWO, leave(0, 1)), [[1, 2, 0, 1, 1, 30], [2, 1, 1, 0, 0, -1]])

    def test_their_yes_is_not_counted_among_those_asked(self):
        self.assertEqual(last(*TWO, host(0))[4], 1)
        self.assertEqual(last(*TWO, leave(0, 1), host(0))[4], 0)

    def test_tells_how_many_are_asked(self):
        self.assertEqual(last(*TWO, leave(0, 1)), [1])
        self.assertEqual(last(*TWO, leave(0, 1), leave(0, 2)), [0])

    def test_they_alone_are_told(self):
        self.assertEqual(sent(*TWO, leave(0, 2)), [[0, 2, 0, 0, 2, 1, 10, 0, 0]])

    def test_no_such_meeting(self):
        self.assert_refused(-3, [], leave(0, 1))
        self.assert_refused(-3, TWO, leave(1, 1))

    def test_called_off(self):
        self.assert_refused(-2, TWO + [off(0)], leave(0, 1))

    def test_not_asked(self):
        for person in 0, 3, 4, 5, 20:
            self.assert_refused(-4, TWO, leave(0, person))
        self.assert_refused(-4, TWO + [leave(0, 1)], leave(0, 1))
        self.assert_refused(-4, [new(0, 10), new(0, 10, 1)], leave(0, 1))

    def test_again_once_they_are_asked_again(self):
        self.assertEqual(last(*TWO, leave(0, 1), ask(0, 1), leave(0, 1)), [1])

    def test_which_refusal_comes_first(self):
        for person in 0, 3, 5:
            self.assert_refused(-3, TWO, leave(1, person))
            self.assert_refused(-2, TWO + [off(0)], leave(0, person))
