"""Point 5: rt_between, rt_applies, rt_rule, rt_takes and rt_table."""

import itertools
import unittest

from tests.helper import GREATEST, ask, last, signed, started, treaty


class Between(unittest.TestCase):
    def test_both_members(self):
        line = signed(4, (0, 2, 3))
        for i in range(4):
            for j in range(4):
                wanted = -22 if i == j else 0 if 1 in (i, j) else 1
                self.assertEqual(last(line + [("rt_between", 0, i, j)]), [wanted])

    def test_not_concluded(self):
        line = signed(3, (0, 1))[:-1]
        self.assertEqual(last(line + [("rt_between", 0, 0, 1)]), [0])
        self.assertEqual(last(line + [("rt_between", 0, 1, 1)]), [-22])

    def test_neither_objects_to_the_other(self):
        line = signed(3, (0, 1, 2)) + [("rt_reserve", 0, 1, 0), ("rt_reserve", 0, 0, 0)]
        pairs = ((0, 1), (1, 0), (0, 2), (2, 0), (1, 2), (2, 1))
        calls = [("rt_between", 0, i, j) for i, j in pairs]
        self.assertEqual(ask(line + calls)[-6:], [[1]] * 6)
        self.assertEqual(ask(line + [("rt_object", 0, 0, 1)] + calls)[-6:], [[0], [0], [1], [1], [1], [1]])
        self.assertEqual(ask(line + [("rt_object", 0, 1, 0)] + calls)[-6:], [[0], [0], [1], [1], [1], [1]])
        both = [("rt_object", 0, 0, 1), ("rt_object", 0, 1, 0)]
        self.assertEqual(ask(line + both + [("rt_accept", 0, 0, 1)] + calls)[-6:-4], [[0], [0]])
        self.assertEqual(ask(line + both + [("rt_accept", 0, 0, 1), ("rt_accept", 0, 1, 0)] + calls)[-6:], [[1]] * 6)

    def test_who_acceded_and_who_left(self):
        line = signed(3, (0, 1)) + [("rt_accede", 0, 2), ("rt_between", 0, 2, 0), ("rt_leave", 0, 0)]
        self.assertEqual(ask(line + [("rt_between", 0, 2, 0), ("rt_between", 0, 1, 2)])[-4:], [[1], [2], [0], [1]])

    def test_each_treaty_by_itself(self):
        line = started(3) + treaty(0, [(0, 1)], (0, 1)) + treaty(1, [(0, 1)], (1, 2))
        calls = [("rt_between", t, i, j) for t in (0, 1) for i, j in ((0, 1), (1, 2), (0, 2))]
        self.assertEqual(ask(line + calls)[-6:], [[1], [0], [0], [0], [1], [0]])

    def test_none_there_is_told_ahead_of_wrong(self):
        line = signed(3, (0, 1))
        for t, i, j in ((1, 0, 0), (0, 3, 3), (0, 3, 0), (0, 0, 3), (GREATEST, 0, 1), (0, GREATEST, GREATEST)):
            self.assertEqual(last(line + [("rt_between", t, i, j)]), [-2])


class Applies(unittest.TestCase):
    def test_neither_reserved_it(self):
        line = signed(3, (0, 1, 2), 4) + [("rt_reserve", 0, 0, 1), ("rt_reserve", 0, 1, 2), ("rt_reserve", 0, 1, 1)]
        for i, j, free in ((0, 1, (0, 3)), (0, 2, (0, 2, 3)), (1, 2, (0, 3))):
            for a in range(4):
                wanted = [1 if a in free else 0]
                self.assertEqual(last(line + [("rt_applies", 0, i, j, a)]), wanted)
                self.assertEqual(last(line + [("rt_applies", 0, j, i, a)]), wanted)

    def test_only_where_its_treaty_is_between_them(self):
        line = signed(3, (0, 1), 2)
        self.assertEqual(last(line[:-1] + [("rt_applies", 0, 0, 1, 0)]), [0])
        self.assertEqual(last(line + [("rt_applies", 0, 0, 1, 0)]), [1])
        self.assertEqual(last(line + [("rt_applies", 0, 0, 2, 0)]), [0])
        line += [("rt_reserve", 0, 1, 0), ("rt_object", 0, 0, 1)]
        self.assertEqual(last(line + [("rt_applies", 0, 0, 1, 1)]), [0])
        self.assertEqual(last(line + [("rt_accept", 0, 0, 1), ("rt_applies", 0, 0, 1, 1)]), [1])

    def test_reserved_no_more(self):
        line = signed(2, (0, 1)) + [("rt_reserve", 0, 1, 0), ("rt_unreserve", 0, 1, 0), ("rt_applies", 0, 0, 1, 0)]
        self.assertEqual(last(line), [1])

    def test_refusals_in_their_order(self):
        line = signed(3, (0, 1), 2)
        for t, i, j, a in ((1, 0, 0, 0), (0, 3, 3, 0), (0, 0, 3, 0), (0, 3, 0, 0), (0, 0, 0, 2), (0, 0, 1, 2),
                           (0, 0, 1, GREATEST), (GREATEST, 0, 1, 0), (0, GREATEST, 1, 0), (0, 1, GREATEST, 0)):
            self.assertEqual(last(line + [("rt_applies", t, i, j, a)]), [-2])
        self.assertEqual(last(line + [("rt_applies", 0, 0, 0, 1)]), [-22])
        self.assertEqual(last(line + [("rt_applies", 0, 2, 2, 1)]), [-22])
        self.assertEqual(last(line + [("rt_applies", 0, 0, 1, 1)]), [1])


class Rule(unittest.TestCase):
    def test_its_treaty_then_the_article_and_how_much(self):
        line = started(3) + [("rt_treaty", 3)] + treaty(1, [(0, 7), (3, 100), (1, 0)], (0, 1))
        calls = [("rt_rule", 0, 1, s) for s in range(4)]
        self.assertEqual(ask(line + calls)[-4:], [[1, 0, 7], [1, 2, 0], [-33], [1, 1, 100]])

    def test_nothing_goes_ahead(self):
        self.assertEqual(last(started(2) + [("rt_rule", 0, 1, 0)]), [-33])
        self.assertEqual(last(signed(3, (0, 1))[:-1] + [("rt_rule", 0, 1, 0)]), [-33])
        self.assertEqual(last(signed(3, (0, 1)) + [("rt_rule", 0, 2, 0)]), [-33])
        self.assertEqual(last(signed(3, (0, 1)) + [("rt_rule", 0, 1, 1)]), [-33])
        self.assertEqual(last(signed(3, (0, 1)) + [("rt_leave", 0, 1), ("rt_rule", 0, 1, 0)]), [-33])
        line = signed(2, (0, 1)) + [("rt_reserve", 0, 1, 0)]
        self.assertEqual(last(line + [("rt_rule", 0, 1, 0)]), [-33])
        line = signed(2, (0, 1), 2) + [("rt_reserve", 0, 1, 0)]
        self.assertEqual(last(line + [("rt_rule", 0, 1, 0)]), [0, 1, 50])
        self.assertEqual(last(line + [("rt_object", 0, 0, 1), ("rt_rule", 0, 1, 0)]), [-33])

    def test_of_several_articles_the_last(self):
        line = started(2) + treaty(0, [(0, 10), (1, 20), (0, 30), (0, 5)], (0, 1))
        wanted = {(): [0, 3, 5], (3,): [0, 2, 30], (2,): [0, 3, 5], (2, 3): [0, 0, 10], (0, 3): [0, 2, 30],
                  (1, 2): [0, 3, 5], (0, 2, 3): [-33], (0, 1, 2): [0, 3, 5]}
        for reserved, rule in wanted.items():
            for owner in itertools.product((0, 1), repeat=len(reserved)):
                calls = [("rt_reserve", 0, i, a) for i, a in zip(owner, reserved)]
                self.assertEqual(last(line + calls + [("rt_rule", 0, 1, 0)]), rule)
                self.assertEqual(last(line + calls + [("rt_rule", 1, 0, 0)]), rule)

    def test_in_whatever_order_they_were_concluded(self):
        """The treaties are laid out in one order and concluded in each other one."""
        laid = [("rt_start", 2)]
        for t in range(4):
            laid += treaty(t, [(0, 10 * t), (1, 5)], (0, 1))[:-1]
        for many in range(1, 5):
            for order in itertools.permutations(range(4), many):
                line = laid + [("rt_conclude", t) for t in order]
                self.assertEqual(last(line + [("rt_rule", 0, 1, 0)]), [order[-1], 0, 10 * order[-1]])

    def test_an_earlier_one_where_the_later_does_not_apply(self):
        line = started(3) + treaty(0, [(0, 40)], (0, 1, 2)) + treaty(1, [(0, 60)], (0, 1)) + treaty(2, [(1, 9)], (0, 1))
        rules = [("rt_rule", 0, 1, 0), ("rt_rule", 1, 2, 0), ("rt_rule", 0, 1, 1)]
        self.assertEqual(ask(line + rules)[-3:], [[1, 0, 60], [0, 0, 40], [2, 0, 9]])
        self.assertEqual(ask(line + [("rt_reserve", 1, 1, 0)] + rules)[-3:], [[0, 0, 40], [0, 0, 40], [2, 0, 9]])
        self.assertEqual(ask(line + [("rt_leave", 1, 0)] + rules)[-3:], [[0, 0, 40], [0, 0, 40], [2, 0, 9]])
        self.assertEqual(ask(line + [("rt_accede", 1, 2)] + rules)[-3:], [[1, 0, 60], [1, 0, 60], [2, 0, 9]])

    def test_all_articles_of_the_last_one_reserved(self):
        line = started(2) + treaty(0, [(0, 40), (0, 41)], (0, 1)) + treaty(1, [(0, 60), (0, 70)], (0, 1))
        line += [("rt_reserve", 1, 0, 0), ("rt_reserve", 1, 1, 1)]
        self.assertEqual(last(line + [("rt_rule", 0, 1, 0)]), [0, 1, 41])

    def test_it_hangs_on_when_it_was_concluded_not_on_who_joined_later(self):
        line = started(3) + treaty(0, [(0, 40)], (0, 2)) + treaty(1, [(0, 60)], (0, 1)) + [("rt_accede", 0, 1)]
        self.assertEqual(last(line + [("rt_rule", 0, 1, 0)]), [1, 0, 60])

    def test_refusals_in_their_order(self):
        line = signed(3, (0, 1))
        for i, j, s in ((3, 0, 0), (0, 3, 0), (3, 3, 4), (0, 3, 4), (GREATEST, 0, 0), (0, GREATEST, GREATEST)):
            self.assertEqual(last(line + [("rt_rule", i, j, s)]), [-2])
            self.assertEqual(last(line + [("rt_takes", i, j, s)]), [-2])
        for i, j, s in ((0, 0, 0), (2, 2, 3), (0, 1, 4), (0, 1, 5), (0, 2, GREATEST), (1, 1, GREATEST)):
            self.assertEqual(last(line + [("rt_rule", i, j, s)]), [-22])
            self.assertEqual(last(line + [("rt_takes", i, j, s)]), [-22])
        self.assertEqual(last(line + [("rt_rule", 0, 1, 3)]), [-33])
        self.assertEqual(last(line + [("rt_takes", 0, 1, 3)]), [100])


class Takes(unittest.TestCase):
    # On subject 0: 30 between 0 and 1, 80 between 0 and 2, 100 between 1 and 2, nothing with 3.
    LINE = started(4) + treaty(0, [(0, 30)], (0, 1)) + treaty(1, [(0, 80)], (0, 2)) + treaty(2, [(0, 100)], (1, 2))

    def taken(self, more, s=0):
        calls = [("rt_takes", i, j, s) for i in range(4) for j in range(4) if i != j]
        return [told[0] for told in ask(self.LINE + more + calls)[-12:]]

    def test_what_goes_ahead_or_100(self):
        self.assertEqual(self.taken([]), [30, 80, 100, 30, 100, 100, 80, 100, 100, 100, 100, 100])
        self.assertEqual(self.taken([], 1), [100] * 12)

    def test_of_one_it_favours_no_more_than_of_anybody(self):
        wanted = [30, 80, 100, 30, 100, 100, 80, 100, 100, 100, 100, 100]
        self.assertEqual(self.taken([("rt_favour", 0, 1)]), wanted)
        self.assertEqual(self.taken([("rt_favour", 0, 2)]), [30, 30] + wanted[2:])
        self.assertEqual(self.taken([("rt_favour", 0, 3)]), [30, 80, 30] + wanted[3:])
        self.assertEqual(self.taken([("rt_favour", 2, 3)]), wanted[:8] + [80] + wanted[9:])
        self.assertEqual(self.taken([("rt_favour", 3, 0)]), wanted)
        self.assertEqual(self.taken([("rt_favour", 0, 3), ("rt_favour", 0, 2)]), [30, 30, 30] + wanted[3:])

    def test_on_that_subject_alone(self):
        self.assertEqual(self.taken([("rt_favour", 0, 3)], 1), [100] * 12)

    def test_favoured_no_more(self):
        self.assertEqual(self.taken([("rt_favour", 0, 3), ("rt_unfavour", 0, 3)]), self.taken([]))

    def test_what_goes_ahead_counts_not_what_else_applies(self):
        """An earlier article between it and another, less than the later one, lowers nothing."""
        line = started(3) + treaty(0, [(0, 5), (0, 90)], (0, 1)) + treaty(1, [(0, 70)], (0, 1))
        line += [("rt_favour", 0, 2)]
        self.assertEqual(last(line + [("rt_takes", 0, 2, 0)]), [70])
        self.assertEqual(last(line + [("rt_leave", 1, 1), ("rt_takes", 0, 2, 0)]), [90])
        self.assertEqual(last(line + [("rt_leave", 1, 1), ("rt_reserve", 0, 1, 1), ("rt_takes", 0, 2, 0)]), [5])

    def test_what_others_may_by_a_favour_counts_not(self):
        """State 1 may take 10 of state 2 by a treaty, so of 0 that it favours too: that lowers nothing for 0 or 2."""
        line = started(3) + treaty(0, [(0, 10)], (1, 2)) + treaty(1, [(0, 60)], (0, 1))
        line += [("rt_favour", 1, 0), ("rt_favour", 0, 2)]
        calls = [("rt_takes", 1, 0, 0), ("rt_takes", 0, 1, 0), ("rt_takes", 0, 2, 0)]
        self.assertEqual(ask(line + calls)[-3:], [[10], [60], [60]])

    def test_the_rule_itself_stays(self):
        line = self.LINE + [("rt_favour", 0, 2), ("rt_rule", 0, 2, 0), ("rt_rule", 0, 3, 0)]
        self.assertEqual(ask(line)[-2:], [[1, 0, 80], [-33]])

    def test_two_states(self):
        line = signed(2, (0, 1)) + [("rt_favour", 0, 1)]
        self.assertEqual(ask(line + [("rt_takes", 0, 1, 0), ("rt_takes", 0, 1, 1)])[-2:], [[50], [100]])

    def test_also_by_a_new_state(self):
        for mode, wanted in ((0, 100), (1, 30)):
            line = started(3) + treaty(0, [(0, 30)], (0, 1)) + [("rt_leave", 0, 1), ("rt_accede", 0, 2)]
            line += [("rt_part", 2, mode), ("rt_leave", 0, 2), ("rt_favour", 0, 1)]
            self.assertEqual(last(line + [("rt_takes", 0, 1, 0)]), [wanted])

    def test_least_and_most(self):
        for x in (0, 1, 99, 100):
            line = started(3) + treaty(0, [(3, x)], (0, 1)) + [("rt_favour", 0, 2)]
            self.assertEqual(ask(line + [("rt_takes", 1, 0, 3), ("rt_takes", 0, 2, 3)])[-2:], [[x], [x]])


class Table(unittest.TestCase):
    def test_nothing_goes_ahead(self):
        for n in (2, 3, 4, 5, 6):
            calls = [("rt_table", s) for s in range(4)]
            self.assertEqual(ask(started(n) + calls)[-4:], [[0, 100 * n * (n - 1)]] * 4)

    def test_pairs_once_and_takes_both_ways(self):
        line = Takes.LINE
        self.assertEqual(last(line + [("rt_table", 0)]), [3, 2 * (30 + 80 + 100 + 300)])
        self.assertEqual(last(line + [("rt_table", 1)]), [0, 1200])

    def test_where_100_goes_ahead(self):
        line = started(2) + treaty(0, [(2, 100)], (0, 1))
        self.assertEqual(last(line + [("rt_table", 2)]), [1, 200])
        self.assertEqual(last(line + [("rt_table", 3)]), [0, 200])

    def test_where_0_goes_ahead(self):
        line = started(6) + treaty(0, [(2, 0)], range(6))
        self.assertEqual(last(line + [("rt_table", 2)]), [15, 0])
        self.assertEqual(last(line + [("rt_leave", 0, 5), ("rt_table", 2)]), [10, 1000])

    def test_with_favours(self):
        line = Takes.LINE + [("rt_favour", 0, 2), ("rt_favour", 0, 3), ("rt_favour", 2, 3)]
        self.assertEqual(last(line + [("rt_table", 0)]), [3, 2 * 510 - 50 - 70 - 20])
        self.assertEqual(last(line + [("rt_unfavour", 0, 3), ("rt_table", 0)]), [3, 2 * 510 - 50 - 20])

    def test_it_is_what_rt_takes_and_rt_rule_tell(self):
        line = started(6) + treaty(0, [(0, 10), (1, 20)], (0, 1, 2)) + treaty(1, [(1, 50), (1, 60)], (1, 2, 3, 5))
        line += [("rt_reserve", 1, 5, 1), ("rt_object", 1, 3, 5), ("rt_favour", 1, 4), ("rt_favour", 4, 1)]
        line += [("rt_favour", 5, 0), ("rt_favour", 2, 3)]
        pairs = [(i, j) for i in range(6) for j in range(6) if i != j]
        for s in range(4):
            takes = ask(line + [("rt_takes", i, j, s) for i, j in pairs])[-30:]
            rules = ask(line + [("rt_rule", i, j, s) for i, j in pairs if i < j])[-15:]
            wanted = [len([rule for rule in rules if rule != [-33]]), sum(take[0] for take in takes)]
            self.assertEqual(last(line + [("rt_table", s)]), wanted)

    def test_a_subject_that_is_none(self):
        for s in (4, 5, 100, GREATEST):
            self.assertEqual(last(started(3) + [("rt_table", s)]), [-22])
        self.assertEqual(last(started(3) + [("rt_table", 3)]), [0, 600])


if __name__ == "__main__":
    unittest.main()
