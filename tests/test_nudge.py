"""Point 8: nudge."""

from lines import LineCase, ask, guests_of, last, leave, move, new, nudge, off, run, sent, take

TWO = [new(0, 10, 2, 1), take(0), take(0)]


class Nudge(LineCase):
    def test_the_last_word_goes_once_more(self):
        self.assertEqual(last(*TWO, nudge(0)), [2])
        self.assertEqual(sent(*TWO, nudge(0)), [[0, 2, 0, 0, 1, 1, 10, 0, 1], [0, 1, 0, 0, 1, 1, 10, 0, 1]])
        self.assertEqual(guests_of(0, *TWO, nudge(0)), guests_of(0, *TWO))

    def test_each_has_their_own_number(self):
        line = TWO + [leave(0, 1), take(0), ask(0, 1), take(0), nudge(0)]
        self.assertEqual(sent(*line), [[0, 2, 0, 0, 1, 1, 10, 0, 1], [0, 1, 0, 0, 3, 1, 10, 0, 1]])

    def test_who_is_not_asked_is_sent_theirs_too_with_all_as_it_stands_now(self):
        line = TWO + [leave(0, 2), take(0), move(0, 20), take(0), nudge(0)]
        self.assertEqual(last(*line), [2])
        self.assertEqual(sent(*line), [[0, 2, 0, 0, 2, 2, 20, 0, 0], [0, 1, 0, 0, 2, 2, 20, 0, 1]])

    def test_one_that_is_called_off(self):
        line = TWO + [leave(0, 2), off(0), take(0), take(0), nudge(0)]
        self.assertEqual(last(*line), [2])
        self.assertEqual(sent(*line), [[0, 2, 0, 0, 2, 1, 10, 1, 0], [0, 1, 0, 0, 2, 1, 10, 1, 1]])

    def test_no_guests(self):
        self.assertEqual(last(new(0, 10), nudge(0)), [0])
        self.assertEqual(sent(new(0, 10), nudge(0)), [])

    def test_what_was_heard_already_is_of_no_use(self):
        self.assertEqual(run(*TWO, nudge(0), take(0))[-1], [0])

    def test_what_was_not_heard_is_of_use(self):
        self.assertEqual(run(new(0, 10, 1), nudge(0), take(1), take(0))[2:], [[1], [0]])

    def test_no_such_meeting(self):
        self.assert_refused(-3, [], nudge(0))
        self.assert_refused(-3, TWO, nudge(1))
        self.assert_refused(-3, TWO, nudge(20))
