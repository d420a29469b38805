"""The net, what is handed over, and the calls by which all that is seen (points 10, 13, 14, 15)."""

from lines import LineCase, answer, ask, copy, grant, guests_of, host, last, leave, letters, move, new, nudge, off, run
from lines import sent, take

# 4 letters, then 4 each time: 100.
FULL = [new(0, 10, 1, 2, 3, 4)] + [nudge(0)] * 24
HEARD = [new(0, 10, 1), take(0)]


class Room(LineCase):
    def test_100_have_room(self):
        self.assertEqual(last(*FULL[:-1], letters())[0], 96)
        self.assertEqual(last(*FULL, letters())[0], 100)

    def test_a_word_without_room_is_lost_but_was_sent(self):
        before = sent(*FULL)
        for call, told in (nudge(0), 4), (off(0), 4), (move(0, 20), 2), (leave(0, 1), 3), (new(1, 5, 2), 1):
            self.assertEqual(last(*FULL, call), [told])
            self.assertEqual(sent(*FULL, call), before)
        self.assertEqual([row[1] for row in guests_of(0, *FULL, move(0, 20))], [2, 2, 2, 2])
        self.assertEqual([row[1] for row in guests_of(0, *FULL, nudge(0))], [1, 1, 1, 1])

    def test_an_answer_without_room_is_lost_but_was_given(self):
        line = FULL + [take(0), new(1, 5, 2), answer(1, 0, 2, 31)]
        self.assertEqual(run(*line)[-1], [1])
        self.assertEqual(last(*line, copy(1, 0)), [1, 1, 10, 0, 1, 1, 2, 30])
        rows = sent(*line)
        self.assertEqual(len(rows), 100)
        self.assertEqual(rows[-1], [0, 2, 1, 1, 1, 1, 5, 0, 1])

    def test_what_finds_room_goes_and_the_rest_is_lost(self):
        line = FULL + [take(0), take(0), move(0, 20)]
        rows = sent(*line)
        self.assertEqual(len(rows), 100)
        self.assertEqual(rows[98:], [[0, 1, 0, 0, 2, 2, 20, 0, 1], [0, 2, 0, 0, 2, 2, 20, 0, 1]])
        self.assertEqual([row[1] for row in guests_of(0, *line)], [2, 2, 2, 2])

    def test_last_letter(self):
        self.assertEqual(run(*FULL, take(99), take(99))[-2:], [[1], [-3]])


class Take(LineCase):
    def test_is_taken_out_of_the_row(self):
        self.assertEqual(sent(new(0, 10, 1, 2, 3), take(1)),
                         [[0, 1, 0, 0, 1, 1, 10, 0, 1], [0, 3, 0, 0, 1, 1, 10, 0, 1]])

    def test_of_no_use_is_taken_out_too(self):
        self.assertEqual(run(*HEARD, nudge(0), take(0), letters())[-2:], [[0], [0]])

    def test_no_such_letter(self):
        self.assert_refused(-3, [], take(0))
        self.assert_refused(-3, [new(0, 10, 1)], take(1))
        self.assert_refused(-3, [new(0, 10, 1)], take(200))


class WordHandedOver(LineCase):
    def test_without_a_copy_there_is_one_as_told(self):
        self.assertEqual(run(new(0, 10, 1), take(0), copy(1, 0))[1:], [[1], [1, 1, 10, 0, 1, 0, 0, -1]])

    def test_the_first_heard_may_be_a_later_one(self):
        line = [new(0, 10, 1), move(0, 20), take(1)]
        self.assertEqual(run(*line, copy(1, 0))[2:], [[1], [2, 2, 20, 0, 1, 0, 0, -1]])
        self.assertEqual(run(*line, take(0), copy(1, 0))[3:], [[0], [2, 2, 20, 0, 1, 0, 0, -1]])

    def test_a_later_one_of_this_round_leaves_the_answer(self):
        line = HEARD + [answer(1, 0, 1, 31), leave(0, 1), take(1)]
        self.assertEqual(run(*line, copy(1, 0))[-2:], [[1], [2, 1, 10, 0, 0, 1, 1, 30]])
        self.assertEqual(last(*line, ask(0, 1), take(1), copy(1, 0)), [3, 1, 10, 0, 1, 1, 1, 30])

    def test_one_of_another_round_takes_answer_and_wish_but_not_how_many(self):
        line = HEARD + [answer(1, 0, 1, 31), move(0, 20), take(1)]
        self.assertEqual(run(*line, copy(1, 0))[-2:], [[1], [2, 2, 20, 0, 1, 1, 0, -1]])

    def test_called_off(self):
        self.assertEqual(last(*HEARD, off(0), take(0), copy(1, 0)), [2, 1, 10, 1, 1, 0, 0, -1])

    def test_the_same_number_is_of_no_use_whatever_it_tells(self):
        # Who isn't asked is not told of a move, so the nudge has their old number and the new round.
        line = HEARD + [leave(0, 1), take(0), move(0, 20), nudge(0), take(0)]
        self.assertEqual(run(*line, copy(1, 0))[-2:], [[0], [2, 1, 10, 0, 0, 0, 0, -1]])


class AnswerHandedOver(LineCase):
    def assert_of_no_use(self, before, letter):
        known = guests_of(0, *before)
        self.assertEqual(last(*before, take(letter)), [0])
        self.assertEqual(guests_of(0, *before, take(letter)), known)

    def test_counts(self):
        line = HEARD + [answer(1, 0, 2, 31), take(0)]
        self.assertEqual(last(*line), [2])
        self.assertEqual(guests_of(0, *line), [[1, 1, 1, 1, 2, 30]])

    def test_a_later_one_counts_and_an_earlier_one_then_does_not(self):
        line = HEARD + [answer(1, 0, 1, 31), answer(1, 0, 2), take(1)]
        self.assertEqual(guests_of(0, *line), [[1, 1, 1, 2, 2, -1]])
        self.assert_of_no_use(line, 0)
        self.assertEqual(guests_of(0, *HEARD, answer(1, 0, 1, 31), answer(1, 0, 2), take(0), take(0)),
                         [[1, 1, 1, 2, 2, -1]])

    def test_of_another_round(self):
        self.assert_of_no_use(HEARD + [answer(1, 0, 1), move(0, 20)], 0)
        self.assert_of_no_use(HEARD + [answer(1, 0, 1, 31), move(0, 10)], 0)

    def test_not_asked_now(self):
        line = HEARD + [answer(1, 0, 1), leave(0, 1)]
        self.assert_of_no_use(line, 0)
        self.assertEqual(last(*line, ask(0, 1), take(0)), [2])

    def test_called_off(self):
        self.assert_of_no_use(HEARD + [answer(1, 0, 1), off(0)], 0)

    def test_goes_to_its_own_meeting_and_guest(self):
        line = [new(0, 1, 2, 3), new(1, 1, 2, 3), take(3), answer(3, 1, 1), take(3)]
        self.assertEqual(last(*line), [2])
        self.assertEqual([row[4] for row in guests_of(0, *line)], [0, 0])
        self.assertEqual([row[4] for row in guests_of(1, *line)], [0, 1])


class Looks(LineCase):
    def test_letters(self):
        self.assertEqual(last(letters()), [0])
        self.assertEqual(last(*HEARD, answer(1, 0, 3), new(2, 5, 4), letters()),
                         [2, 1, 0, 1, 0, 1, 1, 3, -1, 0, 4, 2, 1, 1, 1, 5, 0, 1])

    def test_host_counts_yes_alone(self):
        line = [new(0, 10, 1, 2, 3, 4), take(0), take(0), take(0), take(0)]
        said = [answer(1, 0, 1), answer(2, 0, 2), answer(3, 0, 3), answer(4, 0, 1), take(0), take(0), take(0)]
        self.assertEqual(last(*line, *said, host(0))[4], 1)
        self.assertEqual(last(*line, *said, take(0), host(0))[4], 2)

    def test_host_of_no_meeting(self):
        self.assert_refused(-3, [], host(0))
        self.assert_refused(-3, HEARD, host(1))

    def test_copy(self):
        self.assert_refused(-3, HEARD, copy(1, 1))
        for person in 0, 2, 5, 20:
            self.assert_refused(-4, HEARD, copy(person, 0))
            self.assert_refused(-3, HEARD, copy(person, 1))

    def test_a_few_letters_more_bring_all_to_the_same(self):
        line = [new(0, 10, 1, 2), take(0), answer(1, 0, 1, 31), take(1), grant(0, 1), take(1), nudge(0), take(3),
                answer(2, 0, 1), take(3)]
        self.assertEqual(run(*line, host(0), copy(1, 0), copy(2, 0))[-3:], [
            [0, 2, 30, 0, 1, 2, 1, 2, 1, 1, 0, -1, 2, 2, 1, 1, 1, -1],
            [2, 2, 30, 0, 1, 1, 0, -1],
            [2, 2, 30, 0, 1, 1, 1, -1],
        ])
