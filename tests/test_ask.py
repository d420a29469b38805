"""Point 4: ask."""

from lines import LineCase, answer, ask, guests_of, last, leave, move, new, off, sent, take

ONE = [new(2, 10, 4), take(0)]


class Ask(LineCase):
    def test_a_new_guest_is_the_last(self):
        self.assertEqual(guests_of(0, *ONE, ask(0, 1), ask(0, 0)), [
            [4, 1, 1, 0, 0, -1], [1, 1, 1, 0, 0, -1], [0, 1, 1, 0, 0, -1]])

    def test_tells_how_many_are_asked(self):
        self.assertEqual(last(*ONE, ask(0, 1)), [2])
        self.assertEqual(last(*ONE, leave(0, 4), ask(0, 1)), [1])
        self.assertEqual(last(new(0, 10), ask(0, 1)), [1])
        self.assertEqual(last(new(0, 10, 1, 2, 3), ask(0, 4)), [4])

    def test_they_alone_are_told(self):
        self.assertEqual(sent(*ONE, move(0, 20), take(0), ask(0, 1)), [[0, 1, 2, 0, 1, 2, 20, 0, 1]])

    def test_who_was_a_guest_keeps_their_place_and_what_is_known_of_them(self):
        line = [new(2, 10, 4, 1), take(0), answer(4, 0, 1, 31), take(1), leave(0, 4), take(0), take(0)]
        self.assertEqual(guests_of(0, *line), [[4, 2, 0, 1, 1, 30], [1, 1, 1, 0, 0, -1]])
        self.assertEqual(last(*line, ask(0, 4)), [2])
        self.assertEqual(guests_of(0, *line, ask(0, 4)), [[4, 3, 1, 1, 1, 30], [1, 1, 1, 0, 0, -1]])
        self.assertEqual(sent(*line, ask(0, 4)), [[0, 4, 2, 0, 3, 1, 10, 0, 1]])

    def test_of_one_meeting_is_not_of_another(self):
        self.assertEqual(last(new(0, 1, 1), new(0, 2), ask(1, 1)), [1])

    def test_no_such_meeting(self):
        self.assert_refused(-3, [], ask(0, 1))
        self.assert_refused(-3, ONE, ask(1, 1))

    def test_called_off(self):
        self.assert_refused(-2, ONE + [off(0)], ask(0, 1))

    def test_no_such_person(self):
        self.assertEqual(last(new(0, 10), ask(0, 4)), [1])
        self.assert_refused(-1, [new(0, 10)], ask(0, 5))
        self.assert_refused(-1, ONE, ask(0, 20))

    def test_the_host(self):
        self.assert_refused(-1, ONE, ask(0, 2))

    def test_asked_already(self):
        self.assert_refused(-4, ONE, ask(0, 4))
        self.assert_refused(-4, ONE + [ask(0, 1)], ask(0, 1))
        self.assert_refused(-4, ONE + [leave(0, 4), ask(0, 4)], ask(0, 4))

    def test_which_refusal_comes_first(self):
        for person in 2, 4, 5:
            self.assert_refused(-3, ONE, ask(1, person))
            self.assert_refused(-2, ONE + [off(0)], ask(0, person))
