"""Calls written out as the interface asks, and their answers taken apart again."""

import unittest

from textcopies.copies import answers

MOST = 16384
TOP_COUNT = 4294967295
MOST_CALLS = 900
MOST_NUMBERS = 30000
ALL_UNSEEN = [0] * 256


def opened(copy, site):
    return [copy, 2, 0, site, 0]


def put(copy, at, data, k=None):
    if k is None:
        k = len(data)
    return [copy, 3, 1, at, k, 1, len(data)] + list(data)


def take(copy, at, k):
    return [copy, 3, 2, at, k, 0]


def text(copy, start, k):
    return [copy, 3, 3, start, k, 0]


def length(copy):
    return [copy, 1, 4, 0]


def number_at(copy, at):
    return [copy, 2, 5, at, 0]


def place(copy, count, site):
    return [copy, 3, 6, count, site, 0]


def seen(copy):
    return [copy, 1, 7, 0]


def news(copy, room, known=ALL_UNSEEN):
    return [copy, 2, 8, room, 1, len(known)] + list(known)


def learn(copy, changes, n=None):
    if n is None:
        n = len(changes)
    data = flat(changes)
    return [copy, 2, 9, n, 1, len(data)] + data


def join(copy, other):
    return [copy, 2, 10, other, 0]


def puts_in(count, site, byte, other=(0, 0)):
    return change(site, 1, byte, count, other)


def takes_out(count, site, other):
    return change(site, 2, 0, count, other)


def change(site, kind, byte, count, other):
    head = bytes([site, kind, byte, 0])
    numbers = count.to_bytes(4, "little") + other[0].to_bytes(4, "little") + bytes([other[1]])
    return list(head + numbers + bytes(3))


def counts(known):
    """What seen tells, from a dict of sites and counts."""
    return [known.get(site, 0) for site in range(256)]


def flat(calls):
    return [number for call in calls for number in call]


def ask(*calls):
    """One answer, a list, for each call of a line."""
    line = flat(calls)
    if not 1 <= len(calls) <= MOST_CALLS or len(line) > MOST_NUMBERS:
        raise ValueError("no such line is handed in")
    told = answers(line)
    if len(told) - len(calls) >= 1000000:
        raise ValueError("a line must not ask for so much")
    parts = []
    start = 0
    while start < len(told):
        parts.append(told[start + 1:start + 1 + told[start]])
        start += 1 + told[start]
    return parts


def look(setup, copy, more=()):
    """All that one copy tells of itself behind setup and then more."""
    calls = list(setup) + list(more)
    n = ask(*calls, length(copy))[-1][0]
    questions = [length(copy), text(copy, 0, n), seen(copy), news(copy, MOST)]
    ends = [number_at(copy, at) for at in sorted({0, n // 2, n - 1}) if 0 <= at < n]
    return ask(*calls, *questions, *ends)[len(calls):]


class CallTest(unittest.TestCase):

    def assert_answers(self, pairs):
        """pairs: a call and the answer that it must get, in one line."""
        told = ask(*[call for call, answer in pairs])
        self.assertEqual(len(told), len(pairs))
        for step, (call, answer) in enumerate(pairs):
            self.assertEqual(told[step], answer, f"call {step}: {call[:12]}")

    def assert_last(self, setup, call, answer):
        self.assertEqual(ask(*setup, call)[-1], answer)

    def assert_refused(self, setup, call, refusal, copies=(0,)):
        """The call is refused by that number alone, and no copy has changed."""
        self.assertEqual(ask(*setup, call)[-1], [refusal])
        for copy in copies:
            self.assertEqual(look(setup, copy, [call]), look(setup, copy))
        # What comes next gets the number that it would have got.
        if refusal != -1:
            later = [put(0, 0, b"z")]
            self.assertEqual(look(setup, 0, [call] + later), look(setup, 0, later))

    def assert_text(self, setup, copy, data):
        n = ask(*setup, length(copy))[-1][0]
        told = ask(*setup, text(copy, 0, n))[-1]
        self.assertEqual(bytes(told[1:]), data)
        self.assertEqual(told[0], 0)
        self.assertEqual(n, len(data))
