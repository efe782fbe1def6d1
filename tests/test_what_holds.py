"""What holds, sentence by sentence, in worlds that are drawn: only what the program itself tells is held together."""

import itertools
import random
import unittest

from tests.helper import PAIRS, ask, asked, last, looked, started, steps, treaty


def drawn_offers(drawn, n):
    offers = []
    for i in drawn.sample(range(n), drawn.randrange(2, n + 1)):
        named = drawn.randrange(1 << n) & drawn.randrange(1 << n) & drawn.randrange(1 << n) & ~(1 << i)
        offers.append(("rt_offer", 0, i, drawn.choice((0, 0, 1, 1, 2, min(3, n), n)), named))
    return offers


def states_of(together):
    return [i for i in range(6) if together >> i & 1]


def drawn_world(drawn, n):
    """A line's beginning: treaties concluded in any order, then much that members do, and favours."""
    line = started(n)
    ends = []
    for t in range(4):
        articles = [(drawn.choice((0, 0, 1, 2)), drawn.randrange(101)) for k in range(drawn.randrange(1, 5))]
        made = treaty(t, articles, drawn.sample(range(n), drawn.randrange(2, n + 1)))
        line += made[:-1]
        ends.append(made[-1])
    drawn.shuffle(ends)
    line += ends[:drawn.choice((2, 3, 4, 4))]
    for k in range(30):
        t, i, j, a = (drawn.randrange(most) for most in (4, n, n, 4))
        line.append(drawn.choice((("rt_reserve", t, i, a), ("rt_object", t, j, i), ("rt_favour", i, j))))
    for k in range(6):
        t, i = drawn.randrange(4), drawn.randrange(n)
        line.append(drawn.choice((("rt_leave", t, i), ("rt_accede", t, i))))
    return line


class Seen:
    """What calls that ask tell behind a line, to be looked up."""

    def __init__(self, line):
        self.told = {}
        told = iter(asked(line))
        for name in ("rt_told", "rt_members", "rt_joiners", "rt_waits", "rt_first"):
            for t in range(4):
                self.told[name, t] = next(told)
        for t in range(4):
            for i, j in PAIRS:
                self.told["rt_between", t, i, j] = next(told)[0]
        for t in range(4):
            for i, j in PAIRS:
                for a in range(4):
                    self.told["rt_applies", t, i, j, a] = next(told)[0]
        for name in ("rt_rule", "rt_takes"):
            for i, j in PAIRS:
                for s in range(4):
                    self.told[name, i, j, s] = next(told)

    def of(self, *call):
        return self.told[call]


def worlds(many, least=3):
    """Each with its number of states and a source to draw more from."""
    for seed in range(many):
        drawn = random.Random(seed)
        n = drawn.randrange(least, 7)
        yield n, drawn, drawn_world(drawn, n)


class AllJoinWhoHoldTogether(unittest.TestCase):
    ASKED = [("rt_joiners", 0), ("rt_waits", 0), ("rt_first", 0), ("rt_conclude", 0), ("rt_members", 0)]

    def test_whatever_order_they_offered_in(self):
        for seed in range(60):
            drawn = random.Random(seed)
            n = drawn.randrange(2, 7)
            offers = drawn_offers(drawn, n)
            line = started(n) + [("rt_treaty", 2), ("rt_article", 0, 0, 0)]
            orders = list(itertools.permutations(offers))
            told = [ask(line + list(order) + self.ASKED)[-5:] for order in drawn.sample(orders, min(len(orders), 24))]
            self.assertEqual([each for each in told if each != told[0]], [])

    def test_all_of_them(self):
        """Every offer holds by those who would join, and by no greater set does each one's."""
        for seed in range(150):
            drawn = random.Random(seed)
            n = drawn.randrange(2, 7)
            offers = {call[2]: call[3:] for call in drawn_offers(drawn, n)}
            line = started(n) + [("rt_treaty", 2)] + [("rt_offer", 0, i, *offer) for i, offer in offers.items()]
            many, joiners = last(line + [("rt_joiners", 0)])
            waiting, others = last(line + [("rt_waits", 0)])
            self.assertEqual((many, waiting), (len(states_of(joiners)), len(states_of(others))))
            self.assertEqual(joiners | others, sum(1 << i for i in offers))
            self.assertEqual(joiners & others, 0)
            for together in range(1 << n):
                if together & ~(joiners | others) == 0 and (together == joiners or together & others):
                    holds = all(offers[i][0] < len(states_of(together)) and offers[i][1] & ~together == 0
                                for i in states_of(together))
                    self.assertEqual(holds, together == joiners, (offers, together))


class AsFewAsCanBe(unittest.TestCase):
    def eased(self, line, together):
        """Who would join if those of the set needed and named nobody: they offer just that."""
        return last(line + [("rt_offer", 0, i, 0, 0) for i in states_of(together)] + [("rt_joiners", 0)])[0]

    def test_they_are_enough_and_no_fewer_would_be(self):
        found = set()
        for seed in range(150):
            drawn = random.Random(seed)
            n = drawn.randrange(2, 7)
            need = drawn.randrange(2, n + 1)
            offers = drawn_offers(drawn, n)
            line = started(n) + [("rt_treaty", need)] + offers
            offered = sum(1 << call[2] for call in offers)
            enough = [(len(states_of(some)), some) for some in range(1 << n)
                      if some & ~offered == 0 and self.eased(line, some) >= need]
            wanted = list(min(enough)) if enough else [-33]
            self.assertEqual(last(line + [("rt_first", 0)]), wanted)
            found.add(wanted[0])
        self.assertLessEqual({-33, 0, 1, 2, 3}, found)


class TheSameForBoth(unittest.TestCase):
    def test_whichever_is_named_first(self):
        for n, drawn, line in worlds(60):
            told = Seen(line)
            for i, j in PAIRS:
                for t in range(4):
                    self.assertEqual(told.of("rt_between", t, i, j), told.of("rt_between", t, j, i))
                    for a in range(4):
                        self.assertEqual(told.of("rt_applies", t, i, j, a), told.of("rt_applies", t, j, i, a))
                for s in range(4):
                    self.assertEqual(told.of("rt_rule", i, j, s), told.of("rt_rule", j, i, s))

    def test_it_hangs_on_nobody_else(self):
        changed = 0
        for n, drawn, line in worlds(60):
            i, j = drawn.sample(range(n), 2)
            others = [k for k in range(n) if k not in (i, j)]
            rules = [("rt_rule", i, j, s) for s in range(4)]
            wanted = ask(line + rules)[-4:]
            more = []
            for step in range(40):
                t, a = drawn.randrange(4), drawn.randrange(4)
                k, any_one = drawn.choice(others), drawn.randrange(n)
                more.append(drawn.choice((
                    ("rt_accede", t, k), ("rt_leave", t, k), ("rt_reserve", t, k, a), ("rt_unreserve", t, k, a),
                    ("rt_object", t, k, any_one), ("rt_object", t, any_one, k), ("rt_accept", t, k, any_one),
                    ("rt_accept", t, any_one, k), ("rt_favour", drawn.randrange(n), drawn.randrange(n)),
                    ("rt_part", any_one, drawn.randrange(2)))))
            told = ask(line + more + rules)
            changed += len([each for each in told[len(line):-4] if each[0] >= 0])
            self.assertEqual(told[-4:], wanted)
        self.assertGreater(changed, 300)


class TheLaterGoesAhead(unittest.TestCase):
    def test_no_later_one_applies(self):
        ahead = 0
        for n, drawn, line in worlds(60):
            told = Seen(line)
            for i, j in itertools.combinations(range(n), 2):
                for s in range(4):
                    found = []
                    for t in range(4):
                        many, *rest = told.of("rt_told", t)
                        articles = [(rest[1 + 2 * a], rest[2 + 2 * a]) for a in range(many)]
                        found += [(told.of("rt_members", t)[2], a, t, x) for a, (on, x) in enumerate(articles)
                                  if on == s and told.of("rt_applies", t, i, j, a) == 1]
                    wanted = [-33] if not found else [max(found)[k] for k in (2, 1, 3)]
                    self.assertEqual(told.of("rt_rule", i, j, s), wanted)
                    ahead += len(found) > 1
        self.assertGreater(ahead, 50)

    def test_a_new_one_goes_ahead_of_all(self):
        for seed in range(40):
            drawn = random.Random(seed)
            line = started(3)
            order = drawn.sample(range(4), 4)
            for t in range(4):
                line += treaty(t, [(0, drawn.randrange(101))], (0, 1))[:-1]
            for t in order:
                line += [("rt_conclude", t)]
                self.assertEqual(last(line + [("rt_rule", 0, 1, 0)])[0], t)


class OnlyMembersAreBound(unittest.TestCase):
    def test_who_is_none_is_not(self):
        for n, drawn, line in worlds(60):
            told = Seen(line)
            for i, j in itertools.combinations(range(n), 2):
                for t in range(4):
                    members = states_of(told.of("rt_members", t)[1])
                    if i not in members or j not in members:
                        self.assertEqual(told.of("rt_between", t, i, j), 0)
                        for s in range(4):
                            self.assertNotEqual(told.of("rt_rule", i, j, s)[0], t)

    def test_who_left_all_may_take_all(self):
        for n, drawn, line in worlds(30):
            i = drawn.randrange(n)
            line = line + [("rt_leave", t, i) for t in range(4)]
            for j in range(n):
                if j != i:
                    for s in range(4):
                        told = ask(line + [("rt_rule", i, j, s), ("rt_takes", i, j, s)])[-2:]
                        self.assertEqual(told, [[-33], [100]])


class ToNoneWorse(unittest.TestCase):
    def test_of_whom_it_favours_no_more_than_of_anybody(self):
        favoured = 0
        lowered = 0
        for n, drawn, line in worlds(80):
            told = Seen(line)
            rows = ask(line + [("rt_unfavour", i, j) for i, j in PAIRS])[-len(PAIRS):]
            favours = [pair for pair, row in zip(PAIRS, rows) if row[0] >= 0]
            for i, j in itertools.permutations(range(n), 2):
                for s in range(4):
                    rule = told.of("rt_rule", i, j, s)
                    own = rule[2] if rule != [-33] else 100
                    takes = told.of("rt_takes", i, j, s)[0]
                    least = min(told.of("rt_takes", i, k, s)[0] for k in range(n) if k != i)
                    if (i, j) in favours:
                        self.assertEqual(takes, least)
                        favoured += 1
                        lowered += takes < own
                    else:
                        self.assertEqual(takes, own)
        self.assertGreater(favoured, 500)
        self.assertGreater(lowered, 100)


class AsItsParent(unittest.TestCase):
    def test_towards_all_others(self):
        for n, drawn, line in worlds(80):
            if n == 6:
                continue
            i = drawn.randrange(n)
            before = Seen(line)
            told = Seen(line + [("rt_part", i, 1)])
            for k in range(n):
                if k == i:
                    continue
                for t in range(4):
                    self.assertEqual(told.of("rt_between", t, n, k), before.of("rt_between", t, i, k))
                    for a in range(4):
                        self.assertEqual(told.of("rt_applies", t, n, k, a), before.of("rt_applies", t, i, k, a))
                for s in range(4):
                    rule = before.of("rt_rule", i, k, s)
                    self.assertEqual(told.of("rt_rule", n, k, s), rule)
                    self.assertEqual(told.of("rt_rule", i, k, s), rule)
                    # Neither favours the other: so both take what the rule tells.
                    wanted = [100] if rule == [-33] else rule[2:]
                    self.assertEqual(told.of("rt_takes", n, k, s), wanted)
                    self.assertEqual(told.of("rt_takes", k, n, s), wanted)

    def test_a_second_and_a_grandchild_too(self):
        for n, drawn, line in worlds(40):
            if n > 4:
                continue
            i = drawn.randrange(n)
            for next_one in (i, n):
                told = Seen(line + [("rt_part", i, 1), ("rt_part", next_one, 1)])
                for k in range(n):
                    for s in range(4):
                        if k != i:
                            rules = [told.of("rt_rule", each, k, s) for each in (i, n, n + 1)]
                            self.assertEqual(rules, rules[:1] * 3)


class EachItsOwnTurn(unittest.TestCase):
    def test_once_concluded(self):
        for n, drawn, line in worlds(60):
            turns = [told[2] for told in ask(line + [("rt_members", t) for t in range(4)])[-4:]]
            order = [call[1] for call, told in zip(line, ask(line)) if call[0] == "rt_conclude" and told[0] >= 0]
            self.assertEqual(turns, [order.index(t) + 1 if t in order else 0 for t in range(4)])
            self.assertEqual(last(line + [("rt_state",)])[3], len(order))

    def test_it_stays(self):
        for n, drawn, line in worlds(30):
            calls = [("rt_members", t) for t in range(4)]
            turns = [told[2] for told in ask(line + calls)[-4:]]
            left = [("rt_leave", t, i) for t in range(4) for i in range(n)]
            self.assertEqual([told[2] for told in ask(line + left + calls)[-4:]], turns)


class TakenBack(unittest.TestCase):
    def test_all_is_as_it_was(self):
        for n, drawn, line in worlds(15):
            before = [line[:at] for at in range(2, len(line) + 1) if ask(line[:at])[-1][0] >= 0]
            for many in (1, 2, 7, 19, 20):
                self.assertEqual(looked(line + [("rt_back",)] * many), looked(before[-1 - many]))
                self.assertEqual(steps(line + [("rt_back",)] * many), (20 - many, many))
                self.assertEqual(asked(line + [("rt_back",)] * many + [("rt_again",)] * many), asked(line))


if __name__ == "__main__":
    unittest.main()
