"""Whole lines of drawn calls, held against a model that keeps plain sets and looks up everything by search."""

import collections
import functools
import random
import unittest

from tests.helper import GREATEST, NAMES, ask, treaty
from tests.test_joining_search import number, searched_first, searched_joiners

PARAMETERS = {
    "rt_start": ("n",), "rt_treaty": ("need",), "rt_article": ("t", "s", "x"),
    "rt_offer": ("t", "i", "need", "named"), "rt_unoffer": ("t", "i"), "rt_joiners": ("t",), "rt_waits": ("t",),
    "rt_first": ("t",), "rt_conclude": ("t",), "rt_accede": ("t", "i"), "rt_leave": ("t", "i"),
    "rt_reserve": ("t", "i", "a"), "rt_unreserve": ("t", "i", "a"), "rt_object": ("t", "j", "i"),
    "rt_accept": ("t", "j", "i"), "rt_favour": ("i", "j"), "rt_unfavour": ("i", "j"), "rt_part": ("i", "mode"),
    "rt_members": ("t",), "rt_between": ("t", "i", "j"), "rt_applies": ("t", "i", "j", "a"),
    "rt_rule": ("i", "j", "s"), "rt_takes": ("i", "j", "s"), "rt_table": ("s",), "rt_told": ("t",),
    "rt_back": (), "rt_again": (), "rt_state": (),
}

# Each call with 0 (it goes through) and with each of its refusals, in the order that they are told in.
ANSWERS = {
    "rt_start": (0, -22), "rt_treaty": (0, -22, -28), "rt_article": (0, -2, -22, -16, -28),
    "rt_offer": (0, -2, -22, -16), "rt_unoffer": (0, -2, -16, -6), "rt_joiners": (0, -2, -16),
    "rt_waits": (0, -2, -16), "rt_first": (0, -2, -16, -33), "rt_conclude": (0, -2, -17, -6, -33),
    "rt_accede": (0, -2, -6, -17), "rt_leave": (0, -2, -6), "rt_reserve": (0, -2, -6, -17),
    "rt_unreserve": (0, -2, -6), "rt_object": (0, -2, -22, -6, -17), "rt_accept": (0, -2, -6),
    "rt_favour": (0, -2, -22, -17), "rt_unfavour": (0, -2, -6), "rt_part": (0, -2, -22, -28), "rt_members": (0, -2),
    "rt_between": (0, -2, -22), "rt_applies": (0, -2, -22), "rt_rule": (0, -2, -22, -33), "rt_takes": (0, -2, -22),
    "rt_table": (0, -22), "rt_told": (0, -2), "rt_back": (0, -2), "rt_again": (0, -2), "rt_state": (0,),
}


@functools.lru_cache(maxsize=None)
def first_of(offers, need):
    return tuple(searched_first(dict(offers), need))


class Plain:
    """The registry but for taking back: no value of it is ever changed, each is given anew."""

    def __init__(self, n):
        self.n = n
        self.needs = {}
        self.articles = {}
        self.offers = {}
        self.concluded = []
        self.members = set()
        self.reserved = set()
        self.objecting = set()
        self.favours = set()

    def copy(self):
        other = Plain(self.n)
        vars(other).update(vars(self))
        return other

    def gone(self, t=None, states=(), article=None):
        """Whether one of these isn't there."""
        if t is not None and t not in self.needs or any(i not in range(self.n) for i in states):
            return True
        return article is not None and (t, article) not in self.articles

    def articles_of(self, t):
        return [self.articles[key] for key in sorted(self.articles) if key[0] == t]

    def offers_of(self, t):
        return {key[1]: offer for key, offer in self.offers.items() if key[0] == t}

    def how_many(self, kept, *first):
        return [len([row for row in kept if row[:len(first)] == first])]

    def rt_treaty(self, need):
        if need not in range(2, self.n + 1):
            return [-22]
        if len(self.needs) == 4:
            return [-28]
        self.needs = {**self.needs, len(self.needs): need}
        return [len(self.needs) - 1]

    def rt_article(self, t, s, x):
        if self.gone(t):
            return [-2]
        if s not in range(4) or x not in range(101):
            return [-22]
        if t in self.concluded:
            return [-16]
        many = len(self.articles_of(t))
        if many == 4:
            return [-28]
        self.articles = {**self.articles, (t, many): (s, x)}
        return [many]

    def rt_told(self, t):
        if self.gone(t):
            return [-2]
        numbers = [number for article in self.articles_of(t) for number in article]
        return [len(self.articles_of(t)), self.needs[t]] + (numbers + [0] * 8)[:8]

    def rt_offer(self, t, i, need, named):
        if self.gone(t, (i,)):
            return [-2]
        there = {j for j in range(32) if named >> j & 1}
        if need > self.n or not there <= set(range(self.n)) - {i}:
            return [-22]
        if t in self.concluded:
            return [-16]
        had = (t, i) in self.offers
        self.offers = {**self.offers, (t, i): (need, named)}
        return [int(had)]

    def rt_unoffer(self, t, i):
        if self.gone(t, (i,)):
            return [-2]
        if t in self.concluded:
            return [-16]
        if (t, i) not in self.offers:
            return [-6]
        self.offers = {key: offer for key, offer in self.offers.items() if key != (t, i)}
        return [len(self.offers_of(t))]

    def rt_joiners(self, t):
        if self.gone(t):
            return [-2]
        if t in self.concluded:
            return [-16]
        joiners = searched_joiners(self.offers_of(t))
        return [len(joiners), number(joiners)]

    def rt_waits(self, t):
        if self.gone(t):
            return [-2]
        if t in self.concluded:
            return [-16]
        waits = set(self.offers_of(t)) - searched_joiners(self.offers_of(t))
        return [len(waits), number(waits)]

    def rt_first(self, t):
        if self.gone(t):
            return [-2]
        if t in self.concluded:
            return [-16]
        return list(first_of(tuple(sorted(self.offers_of(t).items())), self.needs[t]))

    def rt_conclude(self, t):
        if self.gone(t):
            return [-2]
        if t in self.concluded:
            return [-17]
        if not self.articles_of(t):
            return [-6]
        joiners = searched_joiners(self.offers_of(t))
        if len(joiners) < self.needs[t]:
            return [-33]
        self.concluded = self.concluded + [t]
        self.members = self.members | {(t, i) for i in joiners}
        return [len(joiners)]

    def rt_accede(self, t, i):
        if self.gone(t, (i,)):
            return [-2]
        if t not in self.concluded:
            return [-6]
        if (t, i) in self.members:
            return [-17]
        self.members = self.members | {(t, i)}
        return self.how_many(self.members, t)

    def rt_leave(self, t, i):
        if self.gone(t, (i,)):
            return [-2]
        if (t, i) not in self.members:
            return [-6]
        self.members = self.members - {(t, i)}
        self.reserved = {row for row in self.reserved if row[:2] != (t, i)}
        self.objecting = {row for row in self.objecting if row[0] != t or i not in row[1:]}
        return self.how_many(self.members, t)

    def rt_members(self, t):
        if self.gone(t):
            return [-2]
        members = [i for i in range(self.n) if (t, i) in self.members]
        return [len(members), number(members), self.concluded.index(t) + 1 if t in self.concluded else 0]

    def rt_reserve(self, t, i, a):
        if self.gone(t, (i,), a):
            return [-2]
        if (t, i) not in self.members:
            return [-6]
        if (t, i, a) in self.reserved:
            return [-17]
        self.reserved = self.reserved | {(t, i, a)}
        return self.how_many(self.reserved, t, i)

    def rt_unreserve(self, t, i, a):
        if self.gone(t, (i,), a):
            return [-2]
        if (t, i, a) not in self.reserved:
            return [-6]
        self.reserved = self.reserved - {(t, i, a)}
        left = self.how_many(self.reserved, t, i)
        if left == [0]:
            self.objecting = {row for row in self.objecting if (row[0], row[2]) != (t, i)}
        return left

    def rt_object(self, t, j, i):
        if self.gone(t, (j, i)):
            return [-2]
        if j == i:
            return [-22]
        if (t, j) not in self.members or self.how_many(self.reserved, t, i) == [0]:
            return [-6]
        if (t, j, i) in self.objecting:
            return [-17]
        self.objecting = self.objecting | {(t, j, i)}
        return self.how_many(self.objecting, t)

    def rt_accept(self, t, j, i):
        if self.gone(t, (j, i)):
            return [-2]
        if (t, j, i) not in self.objecting:
            return [-6]
        self.objecting = self.objecting - {(t, j, i)}
        return self.how_many(self.objecting, t)

    def rt_favour(self, i, j):
        if self.gone(None, (i, j)):
            return [-2]
        if i == j:
            return [-22]
        if (i, j) in self.favours:
            return [-17]
        self.favours = self.favours | {(i, j)}
        return [len(self.favours)]

    def rt_unfavour(self, i, j):
        if self.gone(None, (i, j)):
            return [-2]
        if (i, j) not in self.favours:
            return [-6]
        self.favours = self.favours - {(i, j)}
        return [len(self.favours)]

    def rt_part(self, i, mode):
        if self.gone(None, (i,)):
            return [-2]
        if mode not in (0, 1):
            return [-22]
        if self.n == 6:
            return [-28]
        new = self.n
        self.n = new + 1
        if mode == 1:
            self.members = self.members | {(t, new) for t, k in self.members if k == i}
            self.reserved = self.reserved | {(t, new, a) for t, k, a in self.reserved if k == i}
            own = {(t, new, k) for t, j, k in self.objecting if j == i}
            self.objecting = self.objecting | own | {(t, j, new) for t, j, k in self.objecting if k == i}
        return [new]

    def between(self, t, i, j):
        both = t in self.concluded and (t, i) in self.members and (t, j) in self.members
        return both and (t, i, j) not in self.objecting and (t, j, i) not in self.objecting

    def applies(self, t, i, j, a):
        return self.between(t, i, j) and (t, i, a) not in self.reserved and (t, j, a) not in self.reserved

    def rt_between(self, t, i, j):
        if self.gone(t, (i, j)):
            return [-2]
        return [-22] if i == j else [int(self.between(t, i, j))]

    def rt_applies(self, t, i, j, a):
        if self.gone(t, (i, j), a):
            return [-2]
        return [-22] if i == j else [int(self.applies(t, i, j, a))]

    def ahead(self, i, j, s):
        """Each article on s that applies, with when its treaty was concluded: the greatest is the one."""
        those = [(self.concluded.index(t), a, t) for (t, a), article in self.articles.items()
                 if article[0] == s and self.applies(t, i, j, a)]
        return max(those)[:0:-1] if those else None

    def told_between(self, i, j, s):
        key = self.ahead(i, j, s)
        return 100 if key is None else self.articles[key][1]

    def takes(self, i, j, s):
        all_others = [self.told_between(i, k, s) for k in range(self.n) if k != i]
        return min(self.told_between(i, j, s), *all_others) if (i, j) in self.favours else self.told_between(i, j, s)

    def rt_rule(self, i, j, s):
        if self.gone(None, (i, j)):
            return [-2]
        if i == j or s > 3:
            return [-22]
        key = self.ahead(i, j, s)
        return [-33] if key is None else [key[0], key[1], self.articles[key][1]]

    def rt_takes(self, i, j, s):
        if self.gone(None, (i, j)):
            return [-2]
        return [-22] if i == j or s > 3 else [self.takes(i, j, s)]

    def rt_table(self, s):
        if s > 3:
            return [-22]
        pairs = [(i, j) for i in range(self.n) for j in range(self.n) if i != j]
        some = {frozenset(pair) for pair in pairs if self.ahead(*pair, s) is not None}
        return [len(some), sum(self.takes(i, j, s) for i, j in pairs)]


class Model:
    """All that ever was since the last start, and which of it is now."""

    CHANGES = set(NAMES[1:18]) - {"rt_joiners", "rt_waits", "rt_first"}

    def __init__(self):
        self.ever = [Plain(0)]
        self.at = 0
        self.least = 0

    def ask(self, call):
        name = call[0]
        if name == "rt_start":
            return self.start(call[1])
        if name in ("rt_back", "rt_again"):
            return self.step(name == "rt_back")
        plain = self.ever[self.at].copy()
        if name == "rt_state":
            steps = [self.at - self.least, len(self.ever) - 1 - self.at]
            return [len(plain.needs), plain.n, len(plain.favours), len(plain.concluded)] + steps
        answer = getattr(plain, name)(*call[1:])
        if name in self.CHANGES and answer[0] >= 0:
            self.ever = self.ever[:self.at + 1] + [plain]
            self.at += 1
            self.least = max(self.least, self.at - 20)
        return answer

    def start(self, n):
        if n not in (2, 3, 4):
            return [-22]
        self.ever = [Plain(n)]
        self.at = 0
        self.least = 0
        return [0]

    def step(self, back):
        if self.at == (self.least if back else len(self.ever) - 1):
            return [-2]
        self.at += -1 if back else 1
        return [self.at - self.least if back else len(self.ever) - 1 - self.at]


OFTEN = ("rt_offer", "rt_conclude", "rt_reserve", "rt_reserve", "rt_object", "rt_object", "rt_favour", "rt_accept",
         "rt_accede", "rt_article", "rt_rule", "rt_takes", "rt_table", "rt_applies", "rt_between", "rt_state",
         "rt_told", "rt_members", "rt_back", "rt_again")
EDGES = (5, 6, 7, 16, 31, 32, 63, 64, 100, 101, (1 << 31) - 1, 1 << 31, GREATEST - 1, GREATEST)


def drawn_number(drawn, name, plain):
    """A number for a parameter of this name, most often of something that is there."""
    if drawn.random() < 0.01:
        return drawn.choice(EDGES)
    most = {"t": len(plain.needs), "i": plain.n, "j": plain.n, "a": 3, "need": 4, "mode": 2}
    if name == "s":
        return drawn.choice((0, 0, 0, 0, 1, 1, 2, 3, 4))
    if name == "x":
        return drawn.choice((0, 1, 20, 35, 50, 65, 80, 99, 100, 101))
    if name == "named":
        return drawn.randrange(1 << plain.n) & drawn.randrange(1 << plain.n)
    return drawn.randrange(most[name] + (drawn.random() < 0.1) or 1)


def drawn_call(drawn, names, plain):
    """Most often one that goes through, or that is just beside it."""
    name = drawn.choice(names)
    there = {"rt_unreserve": plain.reserved, "rt_accept": plain.objecting, "rt_unfavour": plain.favours,
             "rt_unoffer": plain.offers}.get(name)
    if there and drawn.random() < 0.5:
        return (name, *drawn.choice(sorted(there)))
    told = [drawn_number(drawn, each, plain) for each in PARAMETERS[name]]
    if name == "rt_object" and plain.reserved and drawn.random() < 0.7:
        told[0], told[2], a = drawn.choice(sorted(plain.reserved))
    if name == "rt_offer" and told[1] < 32 and drawn.random() < 0.9:
        told[3] &= ~(1 << told[1])
    return (name, *told)


def drawn_treaties(drawn, n):
    """Up to four treaties, not all of them concluded, and in any order."""
    calls = []
    last_ones = []
    for t in range(drawn.choice((0, 1, 2, 3, 4, 4))):
        articles = [(drawn.choice((0, 0, 1, 2)), drawn.randrange(101)) for k in range(drawn.randrange(1, 5))]
        made = treaty(t, articles, drawn.sample(range(n), drawn.choice((2, n, n))))
        calls += made[:-1]
        last_ones.append(made[-1])
    drawn.shuffle(last_ones)
    return calls + last_ones[:drawn.choice((1, 2, 3, 4, 4))]


def drawn_beginning(drawn):
    line = [("rt_start", drawn.choice((0, 1, 5, GREATEST))) for k in range(drawn.choice((0, 0, 0, 1, 2)))]
    n = drawn.choice((2, 3, 3, 4, 4))
    line.append(("rt_start", n))
    line += [("rt_part", drawn.randrange(n), drawn.randrange(2)) for k in range(drawn.choice((0, 0, 1, 2)))]
    return line + drawn_treaties(drawn, n)


def drawn_line(drawn, many):
    """A line of so many calls, and what the model answers to each."""
    model = Model()
    line = drawn_beginning(drawn)
    wanted = [model.ask(call) for call in line]
    # Some lines step back and on often, some hardly ever: else none would get far, or none would come back far.
    names = NAMES[1:] + OFTEN * 2 + ("rt_back", "rt_again") * drawn.choice((0, 0, 4, 20))
    while len(line) < many:
        calls = [drawn_call(drawn, names, model.ever[model.at])]
        if drawn.random() < 0.003:
            calls = [("rt_start", drawn.randrange(7))]
        if drawn.random() < 0.01:
            calls = [(drawn.choice(("rt_back", "rt_again")),)] * drawn.choice((3, 19, 20, 21))
        line += calls
        wanted += [model.ask(call) for call in calls]
    return line[:many], wanted[:many]


class AgainstModel(unittest.TestCase):
    def check(self, seed, many):
        """A drawn line, and what was answered to it, which is what the model answers."""
        line, wanted = drawn_line(random.Random(seed), many)
        given = ask(line)
        for at, call in enumerate(line):
            self.assertEqual(given[at], wanted[at], (seed, many, at, call))
        self.assertEqual(len(given), many)
        return [(call[0], min(told[0], 0)) for call, told in zip(line, given)]

    def test_drawn_lines(self):
        answered = collections.Counter()
        for seed in range(600):
            answered.update(self.check(seed, (40, 90, 180, 350)[seed % 4]))
        wanted = {(name, answer) for name, these in ANSWERS.items() for answer in these}
        self.assertEqual(set(answered), wanted)
        self.assertEqual([key for key in wanted if answered[key] < 10], [])

    def test_drawn_lines_of_1000_calls(self):
        for seed in range(1000, 1100):
            self.check(seed, 1000)


if __name__ == "__main__":
    unittest.main()
