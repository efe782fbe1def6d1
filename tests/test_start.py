"""Point 1: rt_start, what a change is, and that what isn't there is looked at first."""

import unittest

from tests.helper import GREATEST, ask, concluded, last, looked, seen, signed, started, steps


class Start(unittest.TestCase):
    def test_two_to_four_states(self):
        for n, wanted in ((0, -22), (1, -22), (2, 0), (3, 0), (4, 0), (5, -22), (6, -22), (GREATEST, -22)):
            with self.subTest(n=n):
                self.assertEqual(last([("rt_start", n)]), [wanted])

    def test_as_many_states_as_told(self):
        for n in (2, 3, 4):
            line = [("rt_start", n), ("rt_treaty", n), ("rt_treaty", n + 1)]
            line += [("rt_offer", 0, n - 1, 0, 0), ("rt_offer", 0, n, 0, 0)]
            self.assertEqual(ask(line), [[0], [0], [-22], [0], [-2]])

    def test_refused_ones_may_come_first(self):
        line = [("rt_start", 5), ("rt_start", 0), ("rt_start", 1), ("rt_start", 3), ("rt_treaty", 3)]
        self.assertEqual(ask(line), [[-22], [-22], [-22], [0], [0]])

    def test_nothing_is_there_at_first(self):
        self.assertEqual(last([("rt_start", 4), ("rt_joiners", 0)]), [-2])
        self.assertEqual(last([("rt_start", 4), ("rt_treaty", 2)]), [0])

    def test_nobody_favours_anybody(self):
        before = signed(4, (0, 1)) + [("rt_favour", 0, 1), ("rt_favour", 1, 0), ("rt_start", 4)]
        self.assertEqual(last(before + [("rt_state",)]), [0, 4, 0, 0, 0, 0])
        self.assertEqual(last(before + [("rt_unfavour", 0, 1)]), [-6])
        self.assertEqual(last(before + [("rt_favour", 0, 1)]), [1])

    def test_states_that_parted_are_gone(self):
        for n in (2, 3, 4):
            before = started(6) + [("rt_start", n)]
            self.assertEqual(looked(before), looked([("rt_start", n)]))
            self.assertEqual(last(before + [("rt_part", n - 1, 1)]), [n])

    def test_begins_anew(self):
        before = signed(4, (0, 1, 2), 3) + [("rt_reserve", 0, 1, 2), ("rt_object", 0, 0, 1), ("rt_treaty", 4)]
        before += [("rt_offer", 1, 2, 1, 8), ("rt_favour", 0, 1), ("rt_part", 1, 1), ("rt_favour", 4, 0), ("rt_back",)]
        for n in (2, 3, 4):
            self.assertEqual(seen(before + [("rt_start", n)], n, 4), seen([("rt_start", n)], n, 4))
            again = signed(n, (0, 1), 4)
            self.assertEqual(seen(before + again, n, 4), seen(again, n, 4))

    def test_refused_leaves_all_as_it_was(self):
        before = signed(3, (0, 1, 2), 3) + [("rt_reserve", 0, 1, 2), ("rt_object", 0, 0, 1), ("rt_treaty", 3)]
        before += [("rt_offer", 1, 2, 1, 2)]
        for n in (0, 1, 5, GREATEST):
            refused = before + [("rt_start", n)]
            self.assertEqual(seen(refused, 3, 4), seen(before, 3, 4))


class Changes(unittest.TestCase):
    def test_each_call_that_changes_counts(self):
        line = [("rt_start", 2), ("rt_treaty", 2), ("rt_article", 0, 0, 1), ("rt_offer", 0, 0, 0, 0)]
        line += [("rt_offer", 0, 0, 0, 0), ("rt_unoffer", 0, 0), ("rt_offer", 0, 0, 0, 0), ("rt_offer", 0, 1, 0, 0)]
        line += [("rt_conclude", 0), ("rt_leave", 0, 1), ("rt_accede", 0, 1), ("rt_reserve", 0, 1, 0)]
        line += [("rt_object", 0, 0, 1), ("rt_accept", 0, 0, 1), ("rt_unreserve", 0, 1, 0), ("rt_favour", 0, 1)]
        line += [("rt_unfavour", 0, 1), ("rt_part", 0, 0), ("rt_part", 0, 1)]
        for many in range(1, len(line) + 1):
            self.assertEqual(steps(line[:many]), (many - 1, 0), line[many - 1])

    def test_an_offer_that_is_the_same_counts_too(self):
        line = [("rt_start", 2), ("rt_treaty", 2)] + [("rt_offer", 0, 0, 1, 2)] * 3
        self.assertEqual(steps(line), (4, 0))

    def test_questions_and_refusals_do_not(self):
        line = [("rt_start", 2), ("rt_treaty", 2), ("rt_joiners", 0), ("rt_waits", 0), ("rt_offer", 0, 0, 0, 0)]
        line += [("rt_offer", 0, 1, 0, 0), ("rt_first", 0), ("rt_treaty", 1), ("rt_article", 1, 0, 0)]
        line += [("rt_article", 0, 4, 0), ("rt_conclude", 0), ("rt_accede", 0, 0), ("rt_start", 1)]
        line += [("rt_members", 0), ("rt_between", 0, 0, 1), ("rt_rule", 0, 1, 0), ("rt_takes", 0, 1, 0)]
        line += [("rt_table", 0), ("rt_told", 0), ("rt_state",), ("rt_applies", 0, 0, 1, 0), ("rt_again",)]
        self.assertEqual(steps(line), (3, 0))

    def test_the_last_20_can_be_taken_back(self):
        offers = [("rt_offer", 0, 0, k % 3, 0) for k in range(30)]
        line = [("rt_start", 2), ("rt_treaty", 2)]
        for many, wanted in ((0, 1), (17, 18), (18, 19), (19, 20), (20, 20), (21, 20), (30, 20)):
            self.assertEqual(steps(line + offers[:many]), (wanted, 0))

    def test_a_start_forgets_them(self):
        for n in (2, 3, 4):
            self.assertEqual(steps(signed(3, (0, 1)) + [("rt_back",), ("rt_start", n)]), (0, 0))

    def test_a_refused_start_does_not(self):
        for n in (0, 1, 5, GREATEST):
            self.assertEqual(steps(signed(3, (0, 1)) + [("rt_back",), ("rt_back",), ("rt_start", n)]), (3, 2))


class LookedAtFirst(unittest.TestCase):
    """Each call is wrong in all it can be wrong in, and yet -2 is answered."""

    def test_treaty(self):
        for t in (1, 2, 4, GREATEST):
            calls = [("rt_article", t, 4, 101), ("rt_offer", t, 0, 9, 255), ("rt_unoffer", t, 0), ("rt_joiners", t)]
            calls += [("rt_waits", t), ("rt_first", t), ("rt_conclude", t), ("rt_accede", t, 0), ("rt_leave", t, 0)]
            calls += [("rt_reserve", t, 0, 0), ("rt_unreserve", t, 0, 0), ("rt_object", t, 0, 0)]
            calls += [("rt_accept", t, 0, 0), ("rt_members", t), ("rt_between", t, 0, 0), ("rt_applies", t, 0, 0, 0)]
            calls += [("rt_told", t)]
            line = signed(3, (0, 1)) + calls
            self.assertEqual(ask(line)[-len(calls):], [[-2]] * len(calls))

    def test_state(self):
        for i in (3, 4, 5, 6, 31, 32, GREATEST):
            calls = [("rt_offer", 0, i, 9, 255), ("rt_unoffer", 0, i), ("rt_accede", 0, i), ("rt_leave", 0, i)]
            calls += [("rt_reserve", 0, i, 0), ("rt_unreserve", 0, i, 0), ("rt_part", i, 2), ("rt_part", i, GREATEST)]
            for first, second in ((i, i), (0, i), (i, 0)):
                calls += [("rt_object", 0, first, second), ("rt_accept", 0, first, second)]
                calls += [("rt_favour", first, second), ("rt_unfavour", first, second)]
                calls += [("rt_between", 0, first, second), ("rt_applies", 0, first, second, 0)]
                calls += [("rt_rule", first, second, 4), ("rt_takes", first, second, 4)]
            for before in (signed(3, (0, 1)), [("rt_start", 3), ("rt_treaty", 2), ("rt_article", 0, 0, 0)]):
                self.assertEqual(ask(before + calls)[-len(calls):], [[-2]] * len(calls))

    def test_state_where_six_are_there(self):
        for i in (6, 7, 32, GREATEST):
            calls = [("rt_part", i, 0), ("rt_part", i, 2), ("rt_favour", i, i), ("rt_accede", 0, i)]
            calls += [("rt_takes", 0, i, 9)]
            self.assertEqual(ask(signed(6, (0, 1)) + calls)[-5:], [[-2]] * 5)

    def test_article(self):
        for many in (1, 2, 3, 4):
            for a in (many, many + 1, 32, GREATEST):
                calls = [("rt_reserve", 0, 2, a), ("rt_unreserve", 0, 2, a), ("rt_reserve", 0, 0, a)]
                calls += [("rt_unreserve", 0, 0, a), ("rt_applies", 0, 0, 1, a), ("rt_applies", 0, 1, 1, a)]
                self.assertEqual(ask(signed(3, (0, 1), many) + calls)[-6:], [[-2]] * 6)

    def test_article_of_that_very_treaty(self):
        line = signed(2, (0, 1), 1) + concluded((0, 1), 3, t=1)
        self.assertEqual(last(line + [("rt_reserve", 1, 0, 2)]), [1])
        self.assertEqual(last(line + [("rt_reserve", 0, 0, 2)]), [-2])
        self.assertEqual(last(line + [("rt_applies", 1, 0, 1, 2)]), [1])
        self.assertEqual(last(line + [("rt_applies", 0, 0, 1, 2)]), [-2])

    def test_article_of_a_treaty_without_any(self):
        line = [("rt_start", 2), ("rt_treaty", 2), ("rt_reserve", 0, 0, 0), ("rt_unreserve", 0, 0, 0)]
        line += [("rt_applies", 0, 0, 1, 0), ("rt_applies", 0, 0, 0, 0)]
        self.assertEqual(ask(line)[2:], [[-2]] * 4)


if __name__ == "__main__":
    unittest.main()
