"""Calls written as lists of numbers, and lines of them run through crossedletters.meetings.answers."""

import unittest

from crossedletters.meetings import answers


def new(host, time, *guests):
    return [0, host, time, len(guests), *guests]


def move(meeting, time):
    return [1, meeting, time]


def off(meeting):
    return [2, meeting]


def ask(meeting, person):
    return [3, meeting, person]


def leave(meeting, person):
    return [4, meeting, person]


def answer(person, meeting, what, wish=0):
    return [5, person, meeting, what, wish]


def grant(meeting, person):
    return [6, meeting, person]


def nudge(meeting):
    return [7, meeting]


def press(person, meeting):
    return [8, person, meeting]


def take(letter):
    return [9, letter]


def keep(letter):
    return [10, letter]


def lose(letter):
    return [11, letter]


def letters():
    return [12]


def host(meeting):
    return [13, meeting]


def copy(person, meeting):
    return [14, person, meeting]


def shown(person):
    return [15, person]


def split(flat):
    """The answers of one line, a list each."""
    rows = []
    at = 0
    while at < len(flat):
        end = at + 1 + flat[at]
        assert flat[at] >= 1 and end <= len(flat), flat
        rows.append(flat[at + 1:end])
        at = end
    return rows


def flatten(calls):
    return [number for call in calls for number in call]


def run(*calls):
    """What is answered to each of the calls, a list each."""
    assert 1 <= len(calls) <= 100, len(calls)
    rows = split(answers(flatten(calls)))
    assert len(rows) == len(calls), rows
    return rows


def last(*calls):
    """What is answered to the last of the calls."""
    return run(*calls)[-1]


def sent(*calls):
    """The letters on their way after the calls, a list each."""
    told = last(*calls, letters())
    rows = []
    at = 1
    while at < len(told):
        size = 9 if told[at] == 0 else 8
        rows.append(told[at:at + size])
        at += size
    assert len(rows) == told[0], told
    return rows


def guests_of(meeting, *calls):
    """What the host knows of each guest after the calls, a list each."""
    told = last(*calls, host(meeting))
    rows = [told[at:at + 6] for at in range(6, len(told), 6)]
    assert len(rows) == told[5], told
    return rows


# Whatever can be seen of meetings, copies and letters.
LOOKS = [letters()] + [host(m) for m in range(7)] + [copy(p, m) for p in range(5) for m in range(6)]
LOOKS += [shown(p) for p in range(5)]


class LineCase(unittest.TestCase):
    def assert_refused(self, number, before, call):
        """Behind the calls before, the call is refused by that number, and nothing changes."""
        rows = run(*before, call, *LOOKS)
        self.assertEqual(rows[len(before)], [number])
        self.assertEqual(rows[len(before) + 1:], run(*before, *LOOKS)[len(before):])
