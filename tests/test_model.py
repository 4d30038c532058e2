"""Many lines of calls against a plain model that follows the document word by word."""

import random
import unittest

from tests.helper import (
    ask, change, counts, join, learn, length, news, number_at, opened, place, put, seen, take, text,
)

MOST = 16384


class Model:
    """One copy: a dict of its changes, from which all else is drawn anew each time."""

    def __init__(self, site):
        self.site = site
        self.known = {}

    def order(self):
        behind = {}
        for number, (kind, byte, other) in self.known.items():
            if kind == 1:
                behind.setdefault(other, []).append(number)
        whole = []
        waiting = sorted(behind.get((0, 0), []))
        while waiting:
            number = waiting.pop()
            whole.append(number)
            waiting.extend(sorted(behind.get(number, [])))
        return whole

    def text(self):
        out = {other for kind, byte, other in self.known.values() if kind == 2}
        return [number for number in self.order() if number not in out]

    def seen(self):
        return [max([c for c, s in self.known if s == site], default=0) for site in range(256)]

    def own(self, changes):
        top = max([count for count, site in self.known], default=0)
        if len(self.known) + len(changes) > MOST or top + len(changes) >= 2 ** 32:
            return [-1]
        for step, (kind, byte, other) in enumerate(changes):
            if other is None:
                other = (top + step, self.site)
            self.known[(top + 1 + step, self.site)] = (kind, byte, other)
        return [len(self.text())]

    def put(self, at, k, data):
        shown = self.text()
        if not 0 <= at <= len(shown) or not 0 <= k <= MOST:
            return [-2]
        first = shown[at - 1] if at else (0, 0)
        return self.own([(1, byte, None if step else first) for step, byte in enumerate(data)])

    def take(self, at, k):
        shown = self.text()
        if at < 0 or k < 0 or at + k > len(shown):
            return [-2]
        return self.own([(2, 0, number) for number in shown[at:at + k]])

    def news(self, room, known):
        if not 0 <= room <= MOST:
            return [-2]
        numbers = [number for number in sorted(self.known) if number[0] > known[number[1]]]
        if len(numbers) > room:
            return [-1]
        rows = [change(site, *self.known[(count, site)][:2], count, self.known[(count, site)][2])
                for count, site in numbers]
        return [len(rows)] + sum(rows, [])

    def learn_one(self, row):
        """Whether the change may be learned; it is known then."""
        site, kind, byte = row[0], row[1], row[2]
        count = int.from_bytes(bytes(row[4:8]), "little")
        other = (int.from_bytes(bytes(row[8:12]), "little"), row[12])
        if row != change(site, kind, byte, count, other) or kind not in (1, 2) or (kind == 2 and byte):
            return False
        if (count, site) in self.known:
            return self.known[(count, site)] == (kind, byte, other)
        if site == 0 or count <= self.seen()[site] or count <= other[0]:
            return False
        if other == (0, 0):
            if kind == 2:
                return False
        elif self.known.get(other, (0,))[0] != 1:
            return False
        self.known[(count, site)] = (kind, byte, other)
        return True

    def learn(self, rows):
        before = dict(self.known)
        if not all([self.learn_one(row) for row in rows]):
            self.known = before
            return [-3]
        return [len(self.text())]

    def join(self, other):
        for number in set(self.known) & set(other.known):
            if self.known[number] != other.known[number]:
                return [-3]
        self.known = {**other.known, **self.known}
        return [len(self.text())]


def number_near(chance, known):
    """The number of a known change, or one beside it."""
    count, site = chance.choice(sorted(known) + [(0, 0)])
    return (max(0, count + chance.choice((0, 0, 0, 0, 1, -1))), chance.choice((site, site, site, site, 3)))


def row_near(chance, model, peer):
    """Sixteen bytes that are often a change: a known one, one that the other copy knows, or a new one."""
    both = {**model.known, **peer.known}
    if both and chance.random() < 0.4:
        count, site = chance.choice(sorted(both))
        kind, byte, other = both[(count, site)]
        row = change(site, kind, byte, count, other)
    else:
        top = max([count for count, site in model.known], default=0)
        kind = chance.choice((1, 1, 2))
        other = (0, 0) if chance.random() < 0.3 else number_near(chance, model.known)
        count = max(0, chance.choice((top, top + 1, top + 2, other[0] + 1)))
        row = change(chance.choice((1, 2, 3, 255)), kind, chance.randrange(3) if kind == 1 else 0, count, other)
    if chance.random() < 0.03:
        row[chance.randrange(16)] = chance.randrange(4)
    return row


def one_call(chance, models, which):
    """A call, and what the model answers to it."""
    model = models[which]
    shown = model.text()
    n = len(shown)
    what = chance.choice("ppppttxliknssggglllljjjjjo" if model.known else "pppplllljo")
    at = chance.randint(-1, n + 1) if chance.random() < 0.2 else chance.randint(0, n)
    k = chance.randint(-1, n - at + 1) if chance.random() < 0.2 else chance.randint(0, min(4, max(0, n - at)))
    if what == "p":
        data = [chance.randrange(256) for step in range(chance.randint(0, 5))]
        return put(which, at, data), model.put(at, len(data), data)
    if what == "t":
        return take(which, at, k), model.take(at, k)
    if what == "x":
        whole = [model.known[number][1] for number in shown]
        fits = at >= 0 and k >= 0 and at + k <= n
        return text(which, at, k), [0] + whole[at:at + k] if fits else [-2]
    if what == "i":
        return number_at(which, at), [0, *shown[at]] if 0 <= at < n else [-2]
    if what == "k":
        number = number_near(chance, model.known)
        return place(which, *number), [shown.index(number) if number in shown else -1]
    if what == "n":
        return length(which), [n]
    if what == "s":
        return seen(which), [0] + model.seen()
    if what == "g":
        known = counts({site: chance.randint(0, 30) for site in (1, 2, 3, 255)})
        room = chance.choice((0, 3, 10, MOST, MOST + 1, -1))
        return news(which, room, known), model.news(room, known)
    if what == "l":
        rows = [row_near(chance, model, models[1 - which]) for step in range(chance.randint(0, 3))]
        return learn(which, rows), model.learn(rows)
    if what == "j":
        other = chance.choice((1 - which, 1 - which, which))
        return join(which, other), model.join(models[other])
    return reopen(chance, models, which)


def reopen(chance, models, which):
    site = chance.choice((0, 256, 1, 2, 3, 255)) if chance.random() < 0.2 else 0
    if site in (0, 256):
        return opened(which, site), [-2]
    models[which] = Model(site)
    return opened(which, site), [0]


class ModelTest(unittest.TestCase):

    def check_line(self, seed, steps):
        chance = random.Random(seed)
        sites = chance.choice(((1, 2), (2, 1), (255, 3), (1, 1)))
        models = [Model(site) for site in sites]
        pairs = [(opened(which, sites[which]), [0]) for which in (0, 1)]
        for step in range(steps):
            pairs.append(one_call(chance, models, chance.randrange(2)))
        for which, model in enumerate(models):
            whole = [model.known[number][1] for number in model.text()]
            pairs.append((text(which, 0, len(whole)), [0] + whole))
            pairs.append((news(which, MOST), model.news(MOST, [0] * 256)))
        told = ask(*[call for call, answer in pairs])
        for step, (call, answer) in enumerate(pairs):
            self.assertEqual(told[step], answer, f"seed {seed}, call {step}: {call[:40]}")
        return pairs

    def test_many_lines(self):
        learned = []
        joined = []
        for seed in range(300):
            pairs = self.check_line(seed, 60)
            learned += [answer[0] for call, answer in pairs if call[2] == 9]
            joined += [answer[0] for call, answer in pairs if call[2] == 10]
        # The lines are worth their while: many calls go well, and many are refused.
        for firsts in (learned, joined):
            self.assertGreater(len([first for first in firsts if first > 0]), 200)
            self.assertGreater(firsts.count(-3), 200)


if __name__ == "__main__":
    unittest.main()
