"""Point 7: grant."""

from lines import LineCase, answer, ask, grant, guests_of, host, last, leave, move, new, off, run, sent, take

# Person 1 wishes for 30, and person 2 says perhaps; the host has heard of both; no letter is on its way.
WISHED = [new(0, 10, 1, 2), take(0), take(0), answer(1, 0, 2, 31), answer(2, 0, 3), take(0), take(0)]


def wished_for(wish):
    return [new(0, 10, 1), take(0), answer(1, 0, 1, wish), take(0)]


class Grant(LineCase):
    def test_tells_the_round_and_the_time(self):
        self.assertEqual(last(*WISHED, grant(0, 1)), [2, 30])
        self.assertEqual(last(*WISHED, grant(0, 1), host(0))[:4], [0, 2, 30, 0])

    def test_is_moved_as_by_move(self):
        moved = WISHED + [move(0, 30)]
        granted = WISHED + [grant(0, 1)]
        self.assertEqual(guests_of(0, *granted), [[1, 2, 1, 1, 0, -1], [2, 2, 1, 1, 0, -1]])
        self.assertEqual(sent(*granted), [[0, 1, 0, 0, 2, 2, 30, 0, 1], [0, 2, 0, 0, 2, 2, 30, 0, 1]])
        self.assertEqual(guests_of(0, *granted), guests_of(0, *moved))
        self.assertEqual(sent(*granted), sent(*moved))

    def test_who_is_not_asked_is_not_told(self):
        self.assertEqual(sent(*WISHED, leave(0, 2), take(0), grant(0, 1)), [[0, 1, 0, 0, 2, 2, 30, 0, 1]])

    def test_first_and_last_time(self):
        self.assertEqual(last(*wished_for(1), grant(0, 1)), [2, 0])
        self.assertEqual(last(*wished_for(100001), grant(0, 1)), [2, 100000])

    def test_a_wish_for_the_time_that_it_has(self):
        self.assertEqual(last(*wished_for(11), grant(0, 1)), [2, 10])

    def test_no_such_meeting(self):
        self.assert_refused(-3, [], grant(0, 1))
        self.assert_refused(-3, WISHED, grant(1, 1))

    def test_called_off(self):
        self.assert_refused(-2, WISHED + [off(0)], grant(0, 1))

    def test_no_wish(self):
        self.assert_refused(-4, WISHED, grant(0, 2))
        self.assert_refused(-4, wished_for(0), grant(0, 1))
        self.assert_refused(-4, WISHED + [move(0, 20)], grant(0, 1))
        self.assert_refused(-4, WISHED + [grant(0, 1)], grant(0, 1))

    def test_a_wish_that_the_host_has_not_heard_of(self):
        self.assert_refused(-4, [new(0, 10, 1), take(0), answer(1, 0, 1, 31)], grant(0, 1))

    def test_no_guest(self):
        for person in 0, 3, 4, 5, 20:
            self.assert_refused(-4, WISHED, grant(0, person))

    def test_not_asked_now(self):
        self.assert_refused(-4, WISHED + [leave(0, 1)], grant(0, 1))
        self.assertEqual(run(*WISHED, leave(0, 1), ask(0, 1), grant(0, 1))[-1], [2, 30])

    def test_which_refusal_comes_first(self):
        for person in 0, 2, 5:
            self.assert_refused(-3, WISHED, grant(1, person))
            self.assert_refused(-2, WISHED + [off(0)], grant(0, person))
