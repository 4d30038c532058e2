"""Many lines of calls against a plain model that follows the document word by word."""

import random
import unittest

from tests.helper import (
    MOST, MOST_CALLS, MOST_NUMBERS, TOP_COUNT, ask, change, counts, flat, join, learn, length, news, number_at,
    opened, place, put, puts_in, seen, take, text,
)
from textcopies.copies import answers

# How often each call is made, by its number; on a copy that knows nothing some are made seldom.
OFTEN = (1, 4, 3, 2, 1, 2, 2, 2, 3, 5, 5)
OFTEN_AT_FIRST = (1, 8, 1, 1, 1, 1, 1, 1, 1, 8, 4)
# In a long line, where a news takes up the room of many others.
OFTEN_IN_LONG = (1, 6, 6, 3, 2, 4, 4, 1, 1, 6, 5)

FAR = (-2147483648, -1, 2147483647)
EVERY_CALL = {(copy, what) for copy in (0, 1) for what in range(11)}


class Model:
    """One copy: a dict of its changes, from which all else is drawn."""

    def __init__(self, site):
        self.site = site
        self.known = {}
        # The text of so many known changes, since none ever goes: a long line asks for it often.
        self.drawn = (0, [])

    def order(self):
        behind = {}
        for number, (kind, byte, other) in self.known.items():
            if kind == 1:
                behind.setdefault(other, []).append(number)
        whole = []
        waiting = sorted(behind.get((0, 0), []))
        while waiting:
            number = waiting.pop()
            whole.append(number)
            waiting.extend(sorted(behind.get(number, [])))
        return whole

    def text(self):
        if self.drawn[0] != len(self.known):
            out = {other for kind, byte, other in self.known.values() if kind == 2}
            self.drawn = (len(self.known), [number for number in self.order() if number not in out])
        return self.drawn[1]

    def seen(self):
        greatest = [0] * 256
        for count, site in self.known:
            greatest[site] = max(greatest[site], count)
        return greatest

    def own(self, changes):
        top = max([count for count, site in self.known], default=0)
        if len(self.known) + len(changes) > MOST or top + len(changes) >= 2 ** 32:
            return [-1]
        for step, (kind, byte, other) in enumerate(changes):
            if other is None:
                other = (top + step, self.site)
            self.known[(top + 1 + step, self.site)] = (kind, byte, other)
        return [len(self.text())]

    def put(self, at, k, data):
        shown = self.text()
        if not 0 <= at <= len(shown) or not 0 <= k <= MOST:
            return [-2]
        first = shown[at - 1] if at else (0, 0)
        return self.own([(1, byte, None if step else first) for step, byte in enumerate(data)])

    def take(self, at, k):
        shown = self.text()
        if at < 0 or k < 0 or at + k > len(shown):
            return [-2]
        return self.own([(2, 0, number) for number in shown[at:at + k]])

    def news(self, room, known):
        if not 0 <= room <= MOST:
            return [-2]
        numbers = [number for number in sorted(self.known) if number[0] > known[number[1]]]
        if len(numbers) > room:
            return [-1]
        rows = [change(site, *self.known[(count, site)][:2], count, self.known[(count, site)][2])
                for count, site in numbers]
        return [len(rows)] + sum(rows, [])

    def learn_one(self, row):
        """Whether the change may be learned; it is known then."""
        site, kind, byte = row[0], row[1], row[2]
        count = int.from_bytes(bytes(row[4:8]), "little")
        other = (int.from_bytes(bytes(row[8:12]), "little"), row[12])
        if row != change(site, kind, byte, count, other) or kind not in (1, 2) or (kind == 2 and byte):
            return False
        if (count, site) in self.known:
            return self.known[(count, site)] == (kind, byte, other)
        if site == 0 or count <= self.seen()[site] or count <= other[0]:
            return False
        if other == (0, 0):
            if kind == 2:
                return False
        elif self.known.get(other, (0,))[0] != 1:
            return False
        self.known[(count, site)] = (kind, byte, other)
        return True

    def learn(self, n, rows):
        if not 0 <= n <= MOST:
            return [-2]
        before = dict(self.known)
        fits = all([self.learn_one(row) for row in rows])
        if fits and len(self.known) <= MOST:
            return [len(self.text())]
        self.known = before
        return [-1] if fits else [-3]

    def join(self, other):
        for number in set(self.known) & set(other.known):
            if self.known[number] != other.known[number]:
                return [-3]
        both = {**other.known, **self.known}
        if len(both) > MOST:
            return [-1]
        self.known = both
        return [len(self.text())]


def number_near(chance, known):
    """The number of a known change, or one beside it."""
    count, site = chance.choice(sorted(known) + [(0, 0)])
    count = max(0, min(TOP_COUNT, count + chance.choice((0, 0, 0, 0, 1, -1))))
    return (count, chance.choice((site, site, site, site, 3)))


def row_near(chance, model, peer):
    """Sixteen bytes that are often a change: a known one, one that the other copy knows, or a new one."""
    both = {**model.known, **peer.known}
    if both and chance.random() < 0.4:
        count, site = chance.choice(sorted(both))
        kind, byte, other = both[(count, site)]
        row = change(site, kind, byte, count, other)
    else:
        top = max([count for count, site in model.known], default=0)
        kind = chance.choice((1, 1, 2))
        other = (0, 0) if chance.random() < 0.3 else number_near(chance, model.known)
        count = min(TOP_COUNT, chance.choice((top, top + 1, top + 2, other[0] + 1)))
        row = change(chance.choice((1, 2, 3, 255)), kind, chance.randrange(3) if kind == 1 else 0, count, other)
    if chance.random() < 0.03:
        row[chance.randrange(16)] = chance.randrange(4)
    return row


def call_open(chance, models, which):
    # Mostly refused, so that copies live long enough to know much.
    site = chance.choice((1, 2, 3, 255)) if chance.random() < 0.15 else chance.choice((0, 256) + FAR)
    if not 1 <= site <= 255:
        return opened(which, site), [-2]
    models[which] = Model(site)
    return opened(which, site), [0]


def place_near(chance, n):
    """A place of the text or the one behind it; at times one that isn't there."""
    if chance.random() < 0.03:
        return chance.choice(FAR)
    return chance.randint(-1, n + 1) if chance.random() < 0.2 else chance.randint(0, n)


def stretch_near(chance, n):
    """A place, and how many from there on; at times more than there are, or less than none."""
    at = place_near(chance, n)
    if chance.random() < 0.03:
        return at, chance.choice(FAR)
    rest = max(0, n - at)
    return at, chance.randint(-1, min(rest, 9) + 1) if chance.random() < 0.2 else chance.randint(0, min(4, rest))


def call_put(chance, models, which):
    at = place_near(chance, len(models[which].text()))
    if chance.random() < 0.05:
        k = chance.choice(FAR + (MOST + 1,))
        return put(which, at, [], k), models[which].put(at, k, [])
    data = [chance.randrange(256) for step in range(chance.randint(0, 5))]
    return put(which, at, data), models[which].put(at, len(data), data)


def call_take(chance, models, which):
    at, k = stretch_near(chance, len(models[which].text()))
    return take(which, at, k), models[which].take(at, k)


def call_text(chance, models, which):
    model = models[which]
    at, k = stretch_near(chance, len(model.text()))
    if at < 0 or k < 0 or at + k > len(model.text()):
        return text(which, at, k), [-2]
    return text(which, at, k), [0] + [model.known[number][1] for number in model.text()[at:at + k]]


def call_length(chance, models, which):
    return length(which), [len(models[which].text())]


def call_id(chance, models, which):
    shown = models[which].text()
    at = place_near(chance, len(shown))
    return number_at(which, at), [0, *shown[at]] if 0 <= at < len(shown) else [-2]


def call_place(chance, models, which):
    shown = models[which].text()
    count, site = number_near(chance, models[which].known)
    if chance.random() < 0.1:
        # As one whole number, count times 256 and the site, it may be that of a known change.
        count, site = chance.choice(((max(0, count - 1), site + 256), (TOP_COUNT, site), (count, TOP_COUNT)))
    return place(which, count, site), [shown.index((count, site)) if (count, site) in shown else -1]


def call_seen(chance, models, which):
    return seen(which), [0] + models[which].seen()


def call_news(chance, models, which):
    # Near the greatest counts of each site, so that a few changes are news.
    known = [max(0, min(TOP_COUNT, count - chance.randint(-1, 8))) for count in models[which].seen()]
    if len(models[which].known) < 100 and chance.random() < 0.3:
        known = [0] * 256
    room = chance.choice((0, 3, 10, MOST, MOST, MOST + 1) + FAR)
    return news(which, room, known), models[which].news(room, known)


def call_learn(chance, models, which):
    if chance.random() < 0.05:
        n = chance.choice(FAR + (MOST + 1,))
        return learn(which, [], n), models[which].learn(n, [])
    rows = [row_near(chance, models[which], models[1 - which]) for step in range(chance.randint(0, 3))]
    return learn(which, rows), models[which].learn(len(rows), rows)


def call_join(chance, models, which):
    other = chance.choice((1 - which, 1 - which, which))
    return join(which, other), models[which].join(models[other])


CALLS = (
    call_open, call_put, call_take, call_text, call_length, call_id, call_place, call_seen, call_news,
    call_learn, call_join,
)


class Line:
    """A line of calls that grows, each with what the model answers to it."""

    def __init__(self, seed, sites=None):
        self.chance = random.Random(seed)
        if sites is None:
            sites = self.chance.choice(((1, 2), (2, 1), (255, 3), (1, 1)))
        self.models = [Model(site) for site in sites]
        self.pairs = [(opened(which, sites[which]), [0]) for which in (0, 1)]

    def put(self, which, at, data):
        self.pairs.append((put(which, at, data), self.models[which].put(at, len(data), data)))

    def learn(self, which, rows):
        self.pairs.append((learn(which, rows), self.models[which].learn(len(rows), rows)))

    def join(self, which, other):
        self.pairs.append((join(which, other), self.models[which].join(self.models[other])))

    def mix(self, steps, often=OFTEN):
        for step in range(steps):
            which = self.chance.randrange(2)
            weights = often if self.models[which].known else OFTEN_AT_FIRST
            call = self.chance.choices(CALLS, weights)[0]
            self.pairs.append(call(self.chance, self.models, which))

    def tell_texts(self):
        for which, model in enumerate(self.models):
            whole = [model.known[number][1] for number in model.text()]
            self.pairs.append((text(which, 0, len(whole)), [0] + whole))

    def tell_changes(self):
        for which, model in enumerate(self.models):
            self.pairs.append((news(which, MOST), model.news(MOST, [0] * 256)))

    def calls(self):
        return [call for call, answer in self.pairs]

    def firsts(self, what):
        """The numbers that are answered first to one sort of call."""
        return [answer[0] for call, answer in self.pairs if call[2] == what]


class ModelTest(unittest.TestCase):

    def check(self, line, seed):
        told = ask(*line.calls())
        self.assertEqual(len(told), len(line.pairs))
        for step, (call, answer) in enumerate(line.pairs):
            self.assertEqual(told[step], answer, f"seed {seed}, call {step}: {call[:40]}")

    def assert_all_calls(self, line):
        self.assertEqual({(call[0], call[2]) for call in line.calls()}, EVERY_CALL)

    def short_line(self, seed):
        line = Line(seed)
        line.mix(60)
        line.tell_texts()
        line.tell_changes()
        return line

    def test_many_lines(self):
        firsts = {what: [] for what in range(11)}
        for seed in range(300):
            line = self.short_line(seed)
            self.check(line, seed)
            for what in range(11):
                firsts[what] += line.firsts(what)
        # The lines are worth their while: many calls go well, and many are refused.
        for what, refusals in ((0, [-2]), (1, [-2]), (2, [-2]), (3, [-2]), (5, [-2]), (6, [-1]), (8, [-2, -1]),
                               (9, [-3, -2]), (10, [-3])):
            self.assertGreater(len([first for first in firsts[what] if first >= 0]), 200, what)
            for refusal in refusals:
                self.assertGreater(firsts[what].count(refusal), 40, (what, refusal))

    def test_lines_near_the_greatest_counts(self):
        refused = 0
        reached = 0
        for seed in range(100):
            line = Line(seed)
            line.learn(0, [puts_in(TOP_COUNT - 20, 3, 97)])
            line.learn(1, [puts_in(TOP_COUNT - 3, 2, 98), puts_in(TOP_COUNT, 4, 98)][seed % 2:])
            line.mix(60)
            line.tell_texts()
            line.tell_changes()
            self.check(line, seed)
            refused += (line.firsts(1) + line.firsts(2)).count(-1)
            reached += len([model for model in line.models if TOP_COUNT in model.seen()])
        self.assertGreater(refused, 200)
        self.assertGreater(reached, 50)

    def test_lines_on_the_greatest_copies(self):
        refused = {what: 0 for what in (1, 2, 9, 10)}
        for seed in range(6):
            # Sites that no made-up change has: few joins find two changes with one number.
            line = Line(seed, (7, 8))
            line.put(0, 0, [step % 256 for step in range(MOST - 30 * seed)])
            # From here on they know the same, or one can't know all that both know.
            if seed % 2 == 1:
                line.join(1, 0)
            else:
                line.put(1, 0, b"apart")
            line.mix(200, OFTEN_IN_LONG)
            line.tell_texts()
            self.check(line, seed)
            for what in refused:
                refused[what] += line.firsts(what).count(-1)
        for what, times in refused.items():
            self.assertGreater(times, 3, what)

    def test_the_longest_lines(self):
        for seed in range(4):
            line = Line(seed)
            line.mix(MOST_CALLS - 2 - 2 - 3, OFTEN_IN_LONG)
            line.tell_texts()
            # What still fits goes in at once: 7 numbers are about these bytes, 12 ask for both texts.
            k = MOST_NUMBERS - len(flat(line.calls())) - 7 - 12
            line.put(0, len(line.models[0].text()) // 2, [step % 251 for step in range(k)])
            line.tell_texts()
            self.assertEqual(len(line.calls()), MOST_CALLS)
            self.assertEqual(len(flat(line.calls())), MOST_NUMBERS)
            self.assert_all_calls(line)
            self.check(line, seed)

    def test_whatever_was_asked_before(self):
        lines = [flat(self.short_line(seed).calls()) for seed in range(40)]
        before = [list(line) for line in lines]
        first = [answers(line) for line in lines]
        again = [answers(line) for line in reversed(lines)]
        self.assertEqual(again[::-1], first)
        self.assertEqual([answers(line) for line in lines], first)
        self.assertEqual(lines, before)


if __name__ == "__main__":
    unittest.main()
