"""Whole lines of drawn calls, held against a model that keeps plain sets and looks up everything by search."""

import random
import unittest

from tests.helper import GREATEST, NAMES, ask, concluded, flat
from tests.test_joining_search import number, searched_first, searched_joiners

SIZES = {"rt_start": 1, "rt_treaty": 1, "rt_article": 3, "rt_offer": 4, "rt_unoffer": 2, "rt_joiners": 1,
         "rt_waits": 1, "rt_first": 1, "rt_conclude": 1, "rt_accede": 2, "rt_leave": 2, "rt_reserve": 3,
         "rt_unreserve": 3, "rt_object": 3}


class Model:
    def __init__(self):
        self.n = 0

    def ask(self, call):
        return getattr(self, call[0])(*call[1:])

    def rt_start(self, n):
        if n not in (2, 3, 4):
            return [-22]
        self.n = n
        self.needs = []
        self.articles = []
        self.offers = []
        self.concluded = set()
        self.members = set()
        self.reserved = set()
        self.objecting = set()
        return [0]

    def gone(self, t, states=(), article=None):
        """Whether one of these isn't there."""
        if t not in range(len(self.needs)) or any(i not in range(self.n) for i in states):
            return True
        return article is not None and article not in range(self.articles[t])

    def rt_treaty(self, need):
        if need not in range(2, self.n + 1):
            return [-22]
        if len(self.needs) == 4:
            return [-28]
        self.needs.append(need)
        self.articles.append(0)
        self.offers.append({})
        return [len(self.needs) - 1]

    def rt_article(self, t, s, x):
        if self.gone(t):
            return [-2]
        if s not in range(4) or x not in range(101):
            return [-22]
        if t in self.concluded:
            return [-16]
        if self.articles[t] == 4:
            return [-28]
        self.articles[t] += 1
        return [self.articles[t] - 1]

    def rt_offer(self, t, i, need, named):
        if self.gone(t, (i,)):
            return [-2]
        there = {j for j in range(32) if named >> j & 1}
        if need > self.n or not there <= set(range(self.n)) - {i}:
            return [-22]
        if t in self.concluded:
            return [-16]
        had = i in self.offers[t]
        self.offers[t][i] = (need, named)
        return [int(had)]

    def rt_unoffer(self, t, i):
        if self.gone(t, (i,)):
            return [-2]
        if t in self.concluded:
            return [-16]
        if i not in self.offers[t]:
            return [-6]
        del self.offers[t][i]
        return [len(self.offers[t])]

    def rt_joiners(self, t):
        if self.gone(t):
            return [-2]
        if t in self.concluded:
            return [-16]
        joiners = searched_joiners(self.offers[t])
        return [len(joiners), number(joiners)]

    def rt_waits(self, t):
        if self.gone(t):
            return [-2]
        if t in self.concluded:
            return [-16]
        waits = set(self.offers[t]) - searched_joiners(self.offers[t])
        return [len(waits), number(waits)]

    def rt_first(self, t):
        if self.gone(t):
            return [-2]
        if t in self.concluded:
            return [-16]
        return searched_first(self.offers[t], self.needs[t])

    def rt_conclude(self, t):
        if self.gone(t):
            return [-2]
        if t in self.concluded:
            return [-17]
        if self.articles[t] == 0:
            return [-6]
        joiners = searched_joiners(self.offers[t])
        if len(joiners) < self.needs[t]:
            return [-33]
        self.concluded.add(t)
        self.members |= {(t, i) for i in joiners}
        return [len(joiners)]

    def how_many(self, kept, *first):
        return [len([row for row in kept if row[:len(first)] == first])]

    def rt_accede(self, t, i):
        if self.gone(t, (i,)):
            return [-2]
        if t not in self.concluded:
            return [-6]
        if (t, i) in self.members:
            return [-17]
        self.members.add((t, i))
        return self.how_many(self.members, t)

    def rt_leave(self, t, i):
        if self.gone(t, (i,)):
            return [-2]
        if (t, i) not in self.members:
            return [-6]
        self.members.remove((t, i))
        self.reserved = {row for row in self.reserved if row[:2] != (t, i)}
        self.objecting = {row for row in self.objecting if row[0] != t or i not in row[1:]}
        return self.how_many(self.members, t)

    def rt_reserve(self, t, i, a):
        if self.gone(t, (i,), a):
            return [-2]
        if (t, i) not in self.members:
            return [-6]
        if (t, i, a) in self.reserved:
            return [-17]
        self.reserved.add((t, i, a))
        return self.how_many(self.reserved, t, i)

    def rt_unreserve(self, t, i, a):
        if self.gone(t, (i,), a):
            return [-2]
        if (t, i, a) not in self.reserved:
            return [-6]
        self.reserved.remove((t, i, a))
        left = self.how_many(self.reserved, t, i)
        if left == [0]:
            self.objecting = {row for row in self.objecting if (row[0], row[2]) != (t, i)}
        return left

    def rt_object(self, t, j, i):
        if self.gone(t, (j, i)):
            return [-2]
        if j == i:
            return [-22]
        if (t, j) not in self.members or self.how_many(self.reserved, t, i) == [0]:
            return [-6]
        if (t, j, i) in self.objecting:
            return [-17]
        self.objecting.add((t, j, i))
        return self.how_many(self.objecting, t)


def drawn_call(drawn):
    """Most often one that goes through, or that is just beside it."""
    name = drawn.choice(NAMES[1:] + ("rt_offer", "rt_conclude", "rt_reserve", "rt_object", "rt_object") * 2)
    told = [drawn.choice((0, 0, 0, 1, 1, 1, 2, 2, 3, 4)) for k in range(SIZES[name])]
    if name == "rt_offer" and drawn.random() < 0.9:
        told[2:] = [drawn.choice((0, 0, 1, 1, 2, 3)), drawn.randrange(16) & drawn.randrange(16) & ~(1 << told[1])]
    if drawn.random() < 0.02:
        told[drawn.randrange(len(told))] = drawn.choice((5, 6, 7, 16, 31, 32, 100, 101, 1 << 31, GREATEST))
    return (name, *told)


def drawn_line(drawn):
    line = [("rt_start", drawn.choice((0, 1, 5, GREATEST))) for k in range(drawn.choice((0, 0, 0, 1, 2)))]
    n = drawn.choice((2, 3, 3, 4, 4))
    line.append(("rt_start", n))
    if drawn.random() < 0.7:
        line += concluded(drawn.sample(range(n), drawn.randrange(2, n + 1)), drawn.randrange(1, 5))
    for k in range(drawn.choice((20, 60, 150, 300))):
        again = drawn.random() < 0.004
        line.append(("rt_start", drawn.randrange(7)) if again else drawn_call(drawn))
    return line


class AgainstModel(unittest.TestCase):
    def test_drawn_lines(self):
        answered = set()
        for seed in range(400):
            line = drawn_line(random.Random(seed))
            self.assertLessEqual(len(flat(line)), 6000)
            model = Model()
            for at, (call, told) in enumerate(zip(line, ask(line), strict=True)):
                self.assertEqual(told, model.ask(call), (seed, at, call))
                answered.add((call[0], min(told[0], 0)))
        self.assertLessEqual(ALL_ANSWERS, answered, ALL_ANSWERS - answered)


# Each call with 0 (it goes through) and with each of its refusals: the lines must come by all of them.
ALL_ANSWERS = {(name, answer) for name, these in {
    "rt_start": (0, -22), "rt_treaty": (0, -22, -28), "rt_article": (0, -2, -22, -16, -28),
    "rt_offer": (0, -2, -22, -16), "rt_unoffer": (0, -2, -16, -6), "rt_joiners": (0, -2, -16),
    "rt_waits": (0, -2, -16), "rt_first": (0, -2, -16, -33), "rt_conclude": (0, -2, -17, -6, -33),
    "rt_accede": (0, -2, -6, -17), "rt_leave": (0, -2, -6), "rt_reserve": (0, -2, -6, -17),
    "rt_unreserve": (0, -2, -6), "rt_object": (0, -2, -22, -6, -17),
}.items() for answer in these}


if __name__ == "__main__":
    unittest.main()
