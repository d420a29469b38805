"""Point 2: move."""

from lines import LineCase, answer, copy, guests_of, host, last, leave, move, new, off, run, sent, take

# Persons 1 and 2 have answered, and the host has heard of it; no letter is on its way.
ANSWERED = [new(0, 10, 1, 2), take(0), take(0), answer(1, 0, 1, 31), answer(2, 0, 3), take(0), take(0)]


class Move(LineCase):
    def test_one_round_more_at_that_time(self):
        self.assertEqual(run(new(0, 10), move(0, 20), move(0, 5), host(0))[1:], [[2], [3], [0, 3, 5, 0, 0, 0]])

    def test_to_the_same_time_is_a_round_more(self):
        self.assertEqual(run(new(0, 10), move(0, 10), host(0))[1:], [[2], [0, 2, 10, 0, 0, 0]])

    def test_no_guest_has_an_answer_or_a_wish(self):
        self.assertEqual(guests_of(0, *ANSWERED), [[1, 1, 1, 1, 1, 30], [2, 1, 1, 1, 3, -1]])
        self.assertEqual(guests_of(0, *ANSWERED, move(0, 20)), [[1, 2, 1, 1, 0, -1], [2, 2, 1, 1, 0, -1]])

    def test_guests_not_asked_lose_answer_and_wish_too_and_are_not_told(self):
        line = ANSWERED + [leave(0, 1), take(0)]
        self.assertEqual(guests_of(0, *line), [[1, 2, 0, 1, 1, 30], [2, 1, 1, 1, 3, -1]])
        self.assertEqual(guests_of(0, *line, move(0, 20)), [[1, 2, 0, 1, 0, -1], [2, 2, 1, 1, 0, -1]])
        self.assertEqual(sent(*line, move(0, 20)), [[0, 2, 0, 0, 2, 2, 20, 0, 1]])

    def test_all_that_are_asked_are_told(self):
        self.assertEqual(sent(*ANSWERED, move(0, 20)), [[0, 1, 0, 0, 2, 2, 20, 0, 1], [0, 2, 0, 0, 2, 2, 20, 0, 1]])

    def test_letters_sent_ahead_stay_as_they_are(self):
        self.assertEqual(sent(new(0, 10, 1), move(0, 20)), [[0, 1, 0, 0, 1, 1, 10, 0, 1], [0, 1, 0, 0, 2, 2, 20, 0, 1]])

    def test_a_copy_does_not_move_by_itself(self):
        self.assertEqual(last(*ANSWERED, move(0, 20), copy(1, 0)), [1, 1, 10, 0, 1, 1, 1, 30])

    def test_other_meetings_stay(self):
        self.assertEqual(last(new(0, 10, 1), new(1, 11, 2), move(0, 20), host(1))[:4], [1, 1, 11, 0])

    def test_time(self):
        self.assertEqual(run(new(0, 10), move(0, 100000), move(0, 0), host(0))[1:], [[2], [3], [0, 3, 0, 0, 0, 0]])
        self.assert_refused(-1, ANSWERED, move(0, 100001))
        self.assert_refused(-1, ANSWERED, move(0, 200000))

    def test_no_such_meeting(self):
        self.assert_refused(-3, [], move(0, 20))
        self.assert_refused(-3, ANSWERED, move(1, 20))
        self.assert_refused(-3, ANSWERED, move(20, 20))

    def test_called_off(self):
        self.assert_refused(-2, ANSWERED + [off(0)], move(0, 20))

    def test_which_refusal_comes_first(self):
        self.assert_refused(-3, ANSWERED, move(1, 100001))
        self.assert_refused(-2, ANSWERED + [off(0)], move(0, 100001))

    def test_sixth_meeting(self):
        six = [new(0, 10) for number in range(6)]
        self.assertEqual(last(*six, move(5, 20)), [2])
        self.assert_refused(-3, six, move(6, 20))
