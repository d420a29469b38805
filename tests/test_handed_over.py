"""What becomes of a letter that is handed over, by take or by keep: late, twice, in another order, or never."""

from lines import LineCase, answer, ask, copy, grant, guests_of, host, keep, last, leave, lose, move, new, nudge, off
from lines import press, run, sent, take

HEARD = [new(0, 10, 1), take(0)]


class HandedOver(LineCase):
    def assert_copy(self, before, letter, answered, told):
        """Behind the calls before, that letter is answered so, and then person 1 has this copy of meeting 0."""
        for call in take(letter), keep(letter):
            self.assertEqual(run(*before, call, copy(1, 0))[-2:], [[answered], told])

    def assert_known(self, before, letter, answered, known):
        """Behind the calls before, that letter is answered so, and then the host knows this of person 1."""
        for call in take(letter), keep(letter):
            self.assertEqual(last(*before, call), [answered])
            self.assertEqual(guests_of(0, *before, call)[0], known)


class WordHandedOver(HandedOver):
    def test_without_a_copy_there_is_one_as_told(self):
        self.assert_copy([new(0, 10, 1)], 0, 1, [1, 1, 10, 0, 1, 0, 0, -1])

    def test_the_first_heard_may_be_a_later_one(self):
        line = [new(0, 10, 1), move(0, 20)]
        self.assert_copy(line, 1, 1, [2, 2, 20, 0, 1, 0, 0, -1])
        self.assert_copy(line + [take(1)], 0, 0, [2, 2, 20, 0, 1, 0, 0, -1])

    def test_the_first_heard_may_tell_that_it_is_called_off(self):
        self.assert_copy([new(0, 10, 1), off(0)], 1, 1, [2, 1, 10, 1, 1, 0, 0, -1])

    def test_the_first_heard_may_tell_that_they_are_not_asked(self):
        self.assert_copy([new(0, 10, 1), leave(0, 1)], 1, 1, [2, 1, 10, 0, 0, 0, 0, -1])

    def test_called_off(self):
        self.assert_copy(HEARD + [off(0)], 0, 1, [2, 1, 10, 1, 1, 0, 0, -1])

    def test_a_later_one_of_the_same_round_leaves_answer_and_wish(self):
        line = HEARD + [answer(1, 0, 1, 31)]
        self.assert_copy(line + [leave(0, 1)], 1, 1, [2, 1, 10, 0, 0, 1, 1, 30])
        self.assert_copy(line + [leave(0, 1), ask(0, 1)], 2, 1, [3, 1, 10, 0, 1, 1, 1, 30])
        self.assert_copy(line + [off(0)], 1, 1, [2, 1, 10, 1, 1, 1, 1, 30])

    def test_one_of_another_round_takes_answer_and_wish_but_not_how_many(self):
        line = HEARD + [answer(1, 0, 2), answer(1, 0, 1, 31)]
        self.assert_copy(line + [move(0, 20)], 2, 1, [2, 2, 20, 0, 1, 2, 0, -1])
        # The same time again is another round all the same.
        self.assert_copy(line + [move(0, 10)], 2, 1, [2, 2, 10, 0, 1, 2, 0, -1])
        self.assert_copy(line + [move(0, 20), move(0, 10)], 3, 1, [3, 3, 10, 0, 1, 2, 0, -1])

    def test_below_the_copys_number_is_of_no_use(self):
        heard = [new(0, 10, 1), move(0, 20), take(1), answer(1, 0, 3, 6)]
        self.assert_copy(heard, 0, 0, [2, 2, 20, 0, 1, 1, 3, 5])
        off_and_heard = [new(0, 10, 1), off(0), take(1)]
        self.assert_copy(off_and_heard, 0, 0, [2, 1, 10, 1, 1, 0, 0, -1])
        third = [new(0, 10, 1), leave(0, 1), ask(0, 1), take(2)]
        for letter in 0, 1:
            self.assert_copy(third, letter, 0, [3, 1, 10, 0, 1, 0, 0, -1])

    def test_the_copys_number_is_of_no_use(self):
        self.assert_copy([new(0, 10, 1), keep(0)], 0, 0, [1, 1, 10, 0, 1, 0, 0, -1])
        self.assert_copy([new(0, 10, 1), keep(0), answer(1, 0, 1, 31)], 0, 0, [1, 1, 10, 0, 1, 1, 1, 30])
        self.assert_copy(HEARD + [answer(1, 0, 1, 31), nudge(0)], 1, 0, [1, 1, 10, 0, 1, 1, 1, 30])

    def test_the_copys_number_is_of_no_use_whatever_it_tells(self):
        # Who isn't asked is not told of a move, so the nudge has their old number and the new round.
        line = HEARD + [answer(1, 0, 1, 31), leave(0, 1), take(1), move(0, 20), nudge(0)]
        self.assertEqual(sent(*line)[1], [0, 1, 0, 0, 2, 2, 20, 0, 0])
        self.assert_copy(line, 1, 0, [2, 1, 10, 0, 0, 1, 1, 30])

    def test_a_nudge_that_tells_of_a_round_not_told_before(self):
        line = HEARD + [answer(1, 0, 1, 31), leave(0, 1), move(0, 20), nudge(0)]
        self.assert_copy(line, 2, 1, [2, 2, 20, 0, 0, 1, 0, -1])
        self.assert_copy(line + [take(2)], 1, 0, [2, 2, 20, 0, 0, 1, 0, -1])

    def test_numbers_may_be_left_out(self):
        line = HEARD + [move(0, 20), move(0, 30), move(0, 40), lose(0), lose(0)]
        self.assert_copy(line, 0, 1, [4, 4, 40, 0, 1, 0, 0, -1])

    def test_goes_to_its_own_guest_and_meeting(self):
        line = [new(0, 1, 2, 3), new(1, 5, 2, 3), take(3)]
        self.assertEqual(run(*line, copy(2, 0), copy(3, 0), copy(2, 1), copy(3, 1))[-4:],
                         [[-4], [-4], [-4], [1, 1, 5, 0, 1, 0, 0, -1]])

    def test_the_host_does_not_know_that_it_was_heard(self):
        before = [new(0, 10, 1, 2)]
        self.assertEqual(last(*before, take(0), host(0)), last(*before, host(0)))


class AnswerHandedOver(HandedOver):
    def test_counts(self):
        self.assert_known(HEARD + [answer(1, 0, 2, 31)], 0, 2, [1, 1, 1, 1, 2, 30])
        self.assert_known(HEARD + [answer(1, 0, 1)], 0, 2, [1, 1, 1, 1, 1, -1])

    def test_a_later_one_counts_and_takes_answer_and_wish(self):
        line = HEARD + [answer(1, 0, 1, 31), answer(1, 0, 2)]
        self.assert_known(line + [take(0)], 0, 2, [1, 1, 1, 2, 2, -1])

    def test_an_earlier_one_is_of_no_use(self):
        line = HEARD + [answer(1, 0, 1, 31), answer(1, 0, 3, 41), answer(1, 0, 2), take(2)]
        for letter in 0, 1:
            self.assert_known(line, letter, 0, [1, 1, 1, 3, 2, -1])

    def test_the_same_count_is_of_no_use(self):
        self.assert_known(HEARD + [answer(1, 0, 1, 31), keep(0)], 0, 0, [1, 1, 1, 1, 1, 30])
        self.assert_known(HEARD + [answer(1, 0, 1, 31), take(0), press(1, 0)], 0, 0, [1, 1, 1, 1, 1, 30])

    def test_counts_may_be_left_out(self):
        self.assert_known(HEARD + [answer(1, 0, 1)] * 4 + [lose(0)] * 3, 0, 2, [1, 1, 1, 4, 1, -1])

    def test_of_an_earlier_round(self):
        line = HEARD + [answer(1, 0, 1, 31)]
        for changed in move(0, 20), move(0, 10):
            self.assert_known(line + [changed], 0, 0, [1, 2, 1, 0, 0, -1])
        self.assert_known(line + [keep(0), grant(0, 1)], 0, 0, [1, 2, 1, 1, 0, -1])

    def test_of_an_earlier_round_though_its_count_is_above(self):
        line = HEARD + [answer(1, 0, 1), take(0), answer(1, 0, 2), move(0, 20)]
        self.assert_known(line, 0, 0, [1, 2, 1, 1, 0, -1])

    def test_the_count_goes_on_over_a_move(self):
        line = HEARD + [answer(1, 0, 1), take(0), move(0, 20), take(0), answer(1, 0, 3, 6)]
        self.assert_known(line, 0, 2, [1, 2, 1, 2, 3, 5])

    def test_not_asked_now(self):
        line = HEARD + [answer(1, 0, 1), leave(0, 1)]
        self.assert_known(line, 0, 0, [1, 2, 0, 0, 0, -1])
        self.assert_known(line + [ask(0, 1)], 0, 2, [1, 3, 1, 1, 1, -1])

    def test_not_asked_now_leaves_what_was_known(self):
        line = HEARD + [answer(1, 0, 1, 31), take(0), answer(1, 0, 2), leave(0, 1)]
        self.assert_known(line, 0, 0, [1, 2, 0, 1, 1, 30])

    def test_called_off(self):
        self.assert_known(HEARD + [answer(1, 0, 1), off(0)], 0, 0, [1, 2, 1, 0, 0, -1])
        self.assert_known(HEARD + [answer(1, 0, 1, 31), take(0), answer(1, 0, 2), off(0)], 0, 0, [1, 2, 1, 1, 1, 30])

    def test_pressed_while_by_the_copy_they_are_not_asked(self):
        line = HEARD + [answer(1, 0, 1), lose(0), leave(0, 1), take(0), press(1, 0), ask(0, 1)]
        self.assert_known(line, 0, 2, [1, 3, 1, 1, 1, -1])

    def test_goes_to_its_own_meeting_and_guest(self):
        line = [new(0, 1, 2, 3), new(1, 1, 2, 3), take(3), answer(3, 1, 1), take(3)]
        self.assertEqual(last(*line), [2])
        self.assertEqual([row[4] for row in guests_of(0, *line)], [0, 0])
        self.assertEqual([row[4] for row in guests_of(1, *line)], [0, 1])

    def test_the_copy_does_not_know_that_it_was_heard(self):
        line = HEARD + [answer(1, 0, 1, 31)]
        self.assertEqual(last(*line, take(0), copy(1, 0)), last(*line, copy(1, 0)))
