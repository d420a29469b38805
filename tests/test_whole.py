"""The whole program: one long line with all sixteen calls, and what holds in any line whatever is called."""

import random
import unittest

from crossedletters.meetings import answers
from lines import LOOKS, answer, ask, copy, flatten, grant, host, keep, last, leave, letters, lose, move, new, nudge
from lines import off, press, run, shown, take

# 100 calls, each with what is answered.
STORY = [
    # Persons 0 and 4 are hosts; of the words one is kept, one is lost.
    (new(0, 600, 1, 2, 3), [0]),
    (new(4, 300, 0, 1), [1]),
    (shown(0), [1, 600, 0, 4]),
    (shown(1), [0]),
    (keep(0), [1]),
    (take(1), [1]),
    (lose(1), [0]),
    (take(1), [1]),
    (take(1), [1]),
    # Answers, one of them overtaken by a later one, one come twice.
    (answer(1, 0, 1), [1]),
    (answer(1, 0, 3, 701), [2]),
    (answer(2, 0, 2), [1]),
    (answer(0, 1, 1), [1]),
    (answer(1, 1, 2), [1]),
    (letters(), [6, 0, 1, 0, 0, 1, 1, 600, 0, 1, 1, 0, 1, 0, 1, 1, 1, -1, 1, 0, 1, 0, 2, 1, 3, 700,
                 1, 0, 2, 0, 1, 1, 2, -1, 1, 4, 0, 1, 1, 1, 1, -1, 1, 4, 1, 1, 1, 1, 2, -1]),
    (take(2), [2]),
    (take(1), [0]),
    (keep(2), [2]),
    (keep(2), [0]),
    (host(1), [4, 1, 300, 0, 1, 2, 0, 1, 1, 1, 1, -1, 1, 1, 1, 0, 0, -1]),
    (host(0), [0, 1, 600, 0, 0, 3, 1, 1, 1, 2, 3, 700, 2, 1, 1, 0, 0, -1, 3, 1, 1, 0, 0, -1]),
    (shown(1), [1, 600, 0, 3]),
    (shown(0), [2, 300, 1, 1, 600, 0, 4]),
    (press(2, 0), [1]),
    (press(3, 0), [-4]),
    (press(4, 0), [-4]),
    (press(1, 2), [-3]),
    # Meeting 0 is moved: answers to the round before are nothing.
    (grant(0, 2), [-4]),
    (grant(0, 1), [2, 700]),
    (take(1), [0]),
    (press(1, 0), [2]),
    (take(4), [1]),
    (press(1, 0), [-2]),
    (copy(1, 0), [2, 2, 700, 0, 1, 2, 0, -1]),
    (keep(0), [0]),
    (take(6), [0]),
    (take(6), [-3]),
    (keep(200), [-3]),
    (lose(6), [-3]),
    # Person 2 is taken off and asked again, person 4 is asked.
    (leave(0, 2), [2]),
    (ask(0, 4), [3]),
    (ask(0, 4), [-4]),
    (ask(0, 0), [-1]),
    (leave(0, 2), [-4]),
    (take(4), [1]),
    (answer(2, 0, 1, 801), [2]),
    (take(5), [1]),
    (copy(2, 0), [3, 2, 700, 0, 0, 2, 1, 800]),
    (answer(2, 0, 1), [-2]),
    (take(6), [0]),
    (press(2, 0), [2]),
    (ask(0, 2), [4]),
    (take(6), [2]),
    (host(0), [0, 2, 700, 0, 1, 4, 1, 2, 1, 2, 0, -1, 2, 4, 1, 2, 1, 800, 3, 2, 1, 0, 0, -1, 4, 1, 1, 0, 0, -1]),
    (shown(2), [0]),
    (take(6), [1]),
    (shown(2), [1, 700, 0, 1]),
    # Meeting 1 is moved, one word of that is lost, and a nudge brings it.
    (move(1, 700), [2]),
    (shown(4), [1, 700, 1, 4]),
    (take(5), [1]),
    (shown(4), [2, 700, 0, 0, 700, 1, 4]),
    (shown(0), [2, 300, 1, 1, 700, 0, 4]),
    (nudge(1), [2]),
    (lose(5), [0]),
    (take(6), [1]),
    (take(6), [1]),
    (take(5), [0]),
    (take(1), [0]),
    (host(1), [4, 2, 700, 0, 0, 2, 0, 2, 1, 1, 0, -1, 1, 2, 1, 0, 0, -1]),
    (shown(1), [2, 700, 0, 0, 700, 1, 0]),
    # It is called off, which person 1 hears late and person 0 never.
    (off(1), [2]),
    (off(1), [-2]),
    (move(1, 5), [-2]),
    (answer(1, 1, 1, 6), [2]),
    (take(6), [0]),
    (shown(1), [2, 700, 0, 0, 700, 1, 1]),
    (keep(5), [1]),
    (shown(1), [1, 700, 0, 0]),
    (shown(4), [1, 700, 0, 0]),
    (press(1, 1), [2]),
    (nudge(1), [2]),
    (new(2, 0, 2), [-1]),
    (new(5, 0), [-1]),
    (new(3, 100001), [-1]),
    (new(3, 100000), [2]),
    (shown(3), [1, 100000, 2, 4]),
    (take(3), [1]),
    (answer(3, 0, 3), [1]),
    (take(8), [2]),
    (shown(3), [2, 700, 0, 3, 100000, 2, 4]),
    (shown(5), [-1]),
    (letters(), [8, 0, 1, 0, 0, 1, 1, 600, 0, 1, 1, 4, 1, 1, 1, 1, 2, -1, 1, 0, 2, 0, 1, 1, 2, -1,
                 0, 0, 4, 1, 3, 2, 700, 1, 1, 0, 1, 4, 1, 3, 2, 700, 1, 1, 1, 4, 1, 1, 2, 2, 1, 5,
                 0, 0, 4, 1, 3, 2, 700, 1, 1, 0, 1, 4, 1, 3, 2, 700, 1, 1]),
    (take(1), [0]),
    (take(0), [0]),
    (host(0), [0, 2, 700, 0, 1, 4, 1, 2, 1, 2, 0, -1, 2, 4, 1, 2, 1, 800, 3, 2, 1, 1, 3, -1, 4, 1, 1, 0, 0, -1]),
    (host(1), [4, 2, 700, 1, 0, 2, 0, 3, 1, 1, 0, -1, 1, 3, 1, 0, 0, -1]),
    (copy(1, 1), [3, 2, 700, 1, 1, 2, 1, 5]),
    (grant(0, 2), [3, 800]),
    (shown(0), [2, 700, 1, 0, 800, 0, 4]),
    (copy(0, 1), [2, 2, 700, 0, 1, 1, 0, -1]),
]


class Story(unittest.TestCase):
    def test_100_calls(self):
        self.assertEqual(len(STORY), 100)
        self.assertEqual({call[0] for call, _ in STORY}, set(range(16)))
        calls = [call for call, _ in STORY]
        for at, answered in enumerate(run(*calls)):
            self.assertEqual(answered, STORY[at][1], f"call {at}: {calls[at]}")

    def test_what_is_behind_a_call_does_not_change_its_answer(self):
        calls = [call for call, _ in STORY]
        for size in range(1, 101):
            self.assertEqual(last(*calls[:size]), STORY[size - 1][1])


def mixed_line(seed, size):
    """Two meetings, then calls of any kind on them; the same for the same seed."""
    rng = random.Random(seed)
    calls = [new(0, 10, 1, 2, 3), new(1, 10, 0, 4)]
    while len(calls) < size:
        meeting = rng.randrange(2)
        person = rng.randrange(5)
        letter = rng.randrange(8)
        time = rng.choice([10, 20, 30])
        likely = [take(letter)] * 6 + [answer(person, meeting, rng.randint(1, 3), rng.choice([0, 11, 41]))] * 4
        others = [keep(letter), lose(letter), move(meeting, time), ask(meeting, person), leave(meeting, person),
                  grant(meeting, person), press(person, meeting), nudge(meeting), shown(person), letters(),
                  host(meeting), copy(person, meeting)]
        rare = [off(meeting), new(person, time, (person + 1) % 5)] if rng.random() < 0.3 else []
        calls.append(rng.choice(likely + others + rare))
    return calls


def meeting_now(line, meeting):
    """What its host has: round, time, called off; and what they know of each guest."""
    told = last(*line, host(meeting))
    return told[1:4], [told[at:at + 6] for at in range(6, len(told), 6)]


def brought_to_the_same(line):
    """The line, and behind it a nudge and a press for all of both meetings, with each of these letters taken."""
    line = list(line)
    for meeting in 0, 1:
        behind = last(*line, letters())[0]
        guests = meeting_now(line, meeting)[1]
        line.append(nudge(meeting))
        line.extend([take(behind)] * len(guests))
        for guest in guests:
            if last(*line, press(guest[0], meeting))[0] > 0:
                line.extend([press(guest[0], meeting), take(behind)])
    return line


class WhateverIsCalled(unittest.TestCase):
    def test_all_sixteen_calls_are_mixed(self):
        met = {call[0] for seed in range(150) for call in mixed_line(seed, 30)}
        self.assertEqual(met, set(range(16)))

    def test_nothing_is_changed_or_kept(self):
        for seed in range(50):
            calls = flatten(mixed_line(seed, 100))
            before = list(calls)
            first = answers(calls)
            self.assertEqual(calls, before)
            self.assertEqual(answers(calls), first)
            self.assertEqual(calls, before)

    def test_a_refusal_stands_alone_and_nothing_else_begins_below_0(self):
        for seed in range(50):
            for answered in run(*mixed_line(seed, 100)):
                if answered[0] < 0:
                    self.assertIn(answered, [[-1], [-2], [-3], [-4], [-5]])
                self.assertGreaterEqual(min(answered[1:], default=0), -1)

    def test_a_refusal_changes_nothing(self):
        for seed in range(50):
            line = mixed_line(seed, 50)
            kept = [call for call, answered in zip(line, run(*line)) if answered[0] >= 0]
            self.assertLess(len(kept), len(line))
            self.assertEqual(run(*kept, *LOOKS)[-len(LOOKS):], run(*line, *LOOKS)[-len(LOOKS):])

    def test_whoever_has_heard_the_last_word_has_what_the_host_has(self):
        seen = 0
        for seed in range(150):
            line = mixed_line(seed, 60)
            for meeting in 0, 1:
                now, guests = meeting_now(line, meeting)
                for person, words, asked, _, _, _ in guests:
                    told = last(*line, copy(person, meeting))
                    if told[0] != words:
                        continue
                    self.assertEqual(told[4], asked, line)
                    if asked == 1:
                        self.assertEqual(told[1:4], now, line)
                        seen += 1
        self.assertGreater(seen, 100)

    def test_a_few_letters_more_bring_all_of_them_to_the_same(self):
        seen = 0
        for seed in range(150):
            line = brought_to_the_same(mixed_line(seed, 30))
            for meeting in 0, 1:
                now, guests = meeting_now(line, meeting)
                for person, words, asked, count, what, wish in guests:
                    told = last(*line, copy(person, meeting))
                    self.assertEqual([told[0], told[4]], [words, asked], line)
                    if asked == 1:
                        self.assertEqual(told[1:4], now, line)
                    if asked == 1 and now[2] == 0:
                        self.assertEqual(told[6:], [what, wish], line)
                        seen += what > 0
                        self.assertIn(count, [told[5]] if what > 0 else range(told[5] + 1), line)
        self.assertGreater(seen, 50)
