"""rt_joiners, rt_waits, rt_first and rt_conclude, held against a plain search over all sets of states."""

import itertools
import random
import unittest

from tests.helper import ask, started


def all_sets(states):
    """Every set of these states, as Python's own sets."""
    states = sorted(states)
    return [set(some) for many in range(len(states) + 1) for some in itertools.combinations(states, many)]


def number(states):
    return sum(2 ** i for i in states)


def named_states(named):
    return {i for i in range(6) if named >> i & 1}


def holds_together(states, offers):
    for i in states:
        others = states - {i}
        if len(others) < offers[i][0] or not named_states(offers[i][1]) <= states:
            return False
    return True


def searched_joiners(offers):
    """Of all sets by which every offer in them holds the greatest one, in which all others must lie."""
    good = [some for some in all_sets(offers) if holds_together(some, offers)]
    greatest = max(good, key=len)
    assert all(some <= greatest for some in good)
    return greatest


def searched_first(offers, need):
    """-33, or how many and the set's number."""
    good = []
    for some in all_sets(offers):
        eased = {i: (0, 0) if i in some else offer for i, offer in offers.items()}
        if len(searched_joiners(eased)) >= need:
            good.append((len(some), number(some)))
    return list(min(good)) if good else [-33]


def wanted(offers, need):
    joiners = searched_joiners(offers)
    waits = set(offers) - joiners
    end = len(joiners) if len(joiners) >= need else -33
    return [[len(joiners), number(joiners)], [len(waits), number(waits)], searched_first(offers, need), [end]]


class AgainstSearch(unittest.TestCase):
    def check(self, states, offers, need):
        line = started(states) + [("rt_treaty", need), ("rt_article", 0, 0, 0)]
        line += [("rt_offer", 0, i, offer[0], offer[1]) for i, offer in offers.items()]
        line += [("rt_joiners", 0), ("rt_waits", 0), ("rt_first", 0), ("rt_conclude", 0)]
        self.assertEqual(ask(line)[-4:], wanted(offers, need), (states, offers, need))

    def possible(self, states, i):
        """Each offer that state i may make, and None."""
        sets = [named for named in range(2 ** states) if not named >> i & 1]
        return [None] + [(need, named) for need in range(states + 1) for named in sets]

    def test_all_offers_of_two_states(self):
        for both in itertools.product(self.possible(2, 0), self.possible(2, 1)):
            self.check(2, {i: offer for i, offer in enumerate(both) if offer is not None}, 2)

    def test_all_offers_of_three_states(self):
        for three in itertools.product(*[self.possible(3, i) for i in range(3)]):
            offers = {i: offer for i, offer in enumerate(three) if offer is not None}
            self.check(3, offers, 2)
            self.check(3, offers, 3)

    def test_many_offers_of_four_states(self):
        drawn = random.Random(4)
        for turn in range(6000):
            offers = {}
            for i in drawn.sample(range(4), drawn.choice((2, 3, 4, 4, 4))):
                named = drawn.randrange(16) & drawn.randrange(16) & ~(1 << i)
                offers[i] = (drawn.choice((0, 1, 1, 2, 2, 3, 4)), named)
            self.check(4, offers, 2 + turn % 3)

    def test_some_offers_of_five_and_six_states(self):
        drawn = random.Random(6)
        for turn in range(400):
            states = 5 + turn % 2
            offers = {}
            for i in drawn.sample(range(states), drawn.choice((3, 4, 5, states))):
                named = drawn.randrange(64) & drawn.randrange(64) & drawn.randrange(2 ** states) & ~(1 << i)
                offers[i] = (drawn.choice((0, 1, 2, 3, 3, 4, 5, states)), named)
            self.check(states, offers, 2 + turn // 2 % (states - 1))


if __name__ == "__main__":
    unittest.main()
