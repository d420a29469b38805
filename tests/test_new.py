"""Point 1: new."""

from lines import LineCase, copy, guests_of, host, last, new, off, run, sent

SIX = [new(0, 1, 1) for number in range(6)]


class New(LineCase):
    def test_numbers_from_0_on(self):
        self.assertEqual(run(new(0, 10, 1), new(1, 20, 0), new(0, 10, 1)), [[0], [1], [2]])

    def test_is_in_round_1_with_these_guests_asked(self):
        shown = [3, 1, 600, 0, 0, 3, 2, 1, 1, 0, 0, -1, 0, 1, 1, 0, 0, -1, 4, 1, 1, 0, 0, -1]
        self.assertEqual(last(new(3, 600, 2, 0, 4), host(0)), shown)

    def test_all_are_told_in_their_order(self):
        self.assertEqual(sent(new(3, 600, 2, 0), new(1, 7, 4)), [
            [0, 2, 3, 0, 1, 1, 600, 0, 1],
            [0, 0, 3, 0, 1, 1, 600, 0, 1],
            [0, 4, 1, 1, 1, 1, 7, 0, 1],
        ])

    def test_no_guests(self):
        self.assertEqual(run(new(4, 0), host(0)), [[0], [4, 1, 0, 0, 0, 0]])
        self.assertEqual(sent(new(4, 0)), [])

    def test_all_others_are_guests(self):
        self.assertEqual([row[0] for row in guests_of(0, new(2, 5, 4, 3, 1, 0))], [4, 3, 1, 0])

    def test_nobody_has_a_copy_yet(self):
        self.assertEqual(run(new(0, 5, 1), copy(0, 0), copy(1, 0))[1:], [[-4], [-4]])

    def test_time(self):
        self.assertEqual(last(new(0, 0, 1)), [0])
        self.assertEqual(last(new(0, 100000, 1)), [0])
        self.assertEqual(last(new(0, 100000, 1), host(0))[2], 100000)
        self.assert_refused(-1, [], new(0, 100001, 1))
        self.assert_refused(-1, [], new(0, 200000))

    def test_host(self):
        self.assertEqual(last(new(4, 1, 0)), [0])
        self.assert_refused(-1, [], new(5, 1, 0))
        self.assert_refused(-1, [], new(20, 1))

    def test_guest_that_there_is(self):
        self.assertEqual(last(new(0, 1, 4)), [0])
        self.assert_refused(-1, [], new(0, 1, 5))
        self.assert_refused(-1, [], new(0, 1, 1, 20, 2))

    def test_guest_is_the_host(self):
        self.assert_refused(-1, [], new(0, 1, 0))
        self.assert_refused(-1, [], new(3, 1, 1, 2, 3))

    def test_guest_stands_twice(self):
        self.assert_refused(-1, [], new(0, 1, 1, 1))
        self.assert_refused(-1, [], new(0, 1, 1, 2, 3, 1))

    def test_ten_guests(self):
        self.assert_refused(-1, [], new(0, 1, 1, 2, 3, 4, 5, 6, 7, 8, 9, 10))
        self.assertEqual(run(new(0, 1, *[1] * 10), new(0, 1)), [[-1], [0]])

    def test_sixth_and_seventh(self):
        self.assertEqual(run(*SIX)[5], [5])
        self.assert_refused(-5, SIX, new(0, 1, 1))
        self.assert_refused(-5, SIX, new(1, 2))

    def test_called_off_ones_take_room_too(self):
        self.assert_refused(-5, SIX + [off(0)], new(0, 1, 1))

    def test_refused_ones_take_no_room(self):
        self.assertEqual(last(new(5, 1), new(0, 100001), *SIX), [5])

    def test_1_goes_ahead_of_5(self):
        for wrong in new(5, 1), new(0, 1, 0), new(0, 1, 2, 2), new(0, 1, 5), new(0, 100001):
            self.assert_refused(-1, SIX, wrong)
