"""Point 4: rt_part, and that a new state may do what any other one may."""

import unittest

from tests.helper import GREATEST, ask, asked, concluded, last, signed, started, treaty

MEMBERS = [("rt_members", t) for t in range(4)]


class Part(unittest.TestCase):
    def test_numbers_up_to_six(self):
        for mode in (0, 1):
            for n in (2, 3, 4):
                told = ask([("rt_start", n)] + [("rt_part", 0, mode)] * 6)[1:]
                self.assertEqual(told, [[k] if k < 6 else [-28] for k in range(n, n + 6)])

    def test_any_state_may_a_new_one_too(self):
        for i in range(5):
            line = started(5) + [("rt_part", i, 1), ("rt_state",)]
            self.assertEqual(ask(line)[-2:], [[5], [0, 6, 0, 0, 2, 0]])
        told = ask([("rt_start", 2)] + [("rt_part", k, k % 2) for k in range(1, 5)])[1:]
        self.assertEqual(told, [[2], [3], [4], [5]])

    def test_mode_0_or_1(self):
        for mode, wanted in ((0, 2), (1, 2), (2, -22), (3, -22), (GREATEST - 1, -22), (GREATEST, -22)):
            self.assertEqual(last([("rt_start", 2), ("rt_part", 1, mode)]), [wanted])

    def test_none_there(self):
        for n in (2, 3, 4, 5, 6):
            for i in (n, n + 1, 6, 32, GREATEST):
                for mode in (0, 1, 2, GREATEST):
                    self.assertEqual(last(started(n) + [("rt_part", i, mode)]), [-2])

    def test_wrong_is_told_ahead_of_full(self):
        self.assertEqual(last(started(6) + [("rt_part", 0, 2)]), [-22])
        self.assertEqual(last(started(6) + [("rt_part", 5, GREATEST)]), [-22])
        self.assertEqual(last(started(6) + [("rt_part", 0, 0)]), [-28])
        self.assertEqual(last(started(6) + [("rt_part", 5, 1)]), [-28])
        self.assertEqual(last(started(5) + [("rt_part", 4, 1)]), [5])


class WithNone(unittest.TestCase):
    """Mode 0."""

    # State 1 is a member, reserved two articles, objects, is objected to, favours and is favoured.
    LINE = signed(3, (0, 1, 2), 3) + [
        ("rt_reserve", 0, 1, 0), ("rt_reserve", 0, 1, 2), ("rt_reserve", 0, 2, 1), ("rt_object", 0, 0, 1),
        ("rt_object", 0, 1, 2), ("rt_favour", 1, 0), ("rt_favour", 2, 1)]

    def test_it_is_no_member(self):
        for i in range(3):
            self.assertEqual(last(self.LINE + [("rt_part", i, 0), ("rt_members", 0)]), [3, 7, 1])

    def test_all_between_the_others_stays(self):
        calls = [("rt_between", 0, i, j) for i in range(3) for j in range(3)]
        calls += [("rt_applies", 0, i, j, a) for i in range(3) for j in range(3) for a in range(3)]
        calls += [("rt_takes", i, j, s) for i in range(3) for j in range(3) for s in range(4)]
        many = len(calls)
        for i in range(3):
            self.assertEqual(ask(self.LINE + [("rt_part", i, 0)] + calls)[-many:], ask(self.LINE + calls)[-many:])

    def test_nothing_is_between_it_and_anybody(self):
        calls = [("rt_between", 0, 3, j) for j in range(3)] + [("rt_applies", 0, j, 3, 1) for j in range(3)]
        self.assertEqual(ask(self.LINE + [("rt_part", 1, 0)] + calls)[-6:], [[0]] * 6)
        calls = [("rt_rule", 3, j, 0) for j in range(3)] + [("rt_takes", j, 3, 0) for j in range(3)]
        self.assertEqual(ask(self.LINE + [("rt_part", 1, 0)] + calls)[-6:], [[-33]] * 3 + [[100]] * 3)

    def test_it_reserved_nothing_and_objects_to_nobody(self):
        line = self.LINE + [("rt_part", 1, 0)]
        for call in (("rt_leave", 0, 3), ("rt_unreserve", 0, 3, 0), ("rt_accept", 0, 3, 2), ("rt_accept", 0, 0, 3)):
            self.assertEqual(last(line + [call]), [-6])
        line += [("rt_accede", 0, 3), ("rt_reserve", 0, 3, 0), ("rt_object", 0, 0, 3), ("rt_object", 0, 3, 2)]
        self.assertEqual(ask(line)[-4:], [[4], [1], [3], [4]])

    def test_it_favours_nobody_and_nobody_it(self):
        line = self.LINE + [("rt_part", 1, 0)]
        self.assertEqual(last(line + [("rt_state",)])[2], 2)
        for i in range(3):
            self.assertEqual(ask(line + [("rt_unfavour", 3, i), ("rt_unfavour", i, 3)])[-2:], [[-6], [-6]])


class WithAll(unittest.TestCase):
    """Mode 1."""

    def test_a_member_where_its_parent_is(self):
        line = signed(4, (0, 1)) + concluded((1, 2, 3), t=1) + [("rt_treaty", 2)]
        wanted = {0: [[3, 19, 1], [3, 14, 2]], 1: [[3, 19, 1], [4, 30, 2]], 2: [[2, 3, 1], [4, 30, 2]]}
        for i in wanted:
            told = ask(line + [("rt_part", i, 1)] + MEMBERS)[-4:]
            self.assertEqual(told, wanted[i] + [[0, 0, 0], [-2]])

    def test_of_one_that_is_a_member_of_none(self):
        line = signed(4, (0, 1)) + concluded((1, 2), t=1)
        self.assertEqual(asked(line + [("rt_part", 3, 1)]), asked(line + [("rt_part", 3, 0)]))

    def test_of_one_that_left(self):
        line = signed(3, (0, 1, 2)) + [("rt_reserve", 0, 2, 0), ("rt_object", 0, 0, 2), ("rt_leave", 0, 2)]
        self.assertEqual(last(line + [("rt_part", 2, 1), ("rt_members", 0)]), [2, 3, 1])

    def test_the_same_articles_reserved(self):
        line = signed(3, (0, 1), 4) + [("rt_reserve", 0, 1, 1), ("rt_reserve", 0, 1, 3), ("rt_part", 1, 1)]
        calls = [("rt_applies", 0, 0, 3, a) for a in range(4)]
        self.assertEqual(ask(line + calls)[-4:], [[1], [0], [1], [0]])
        calls = [("rt_reserve", 0, 3, a) for a in range(4)]
        self.assertEqual(ask(line + calls)[-4:], [[3], [-17], [4], [-17]])

    def test_each_ones_reservations_are_its_own_from_then_on(self):
        line = signed(3, (0, 1), 4) + [("rt_reserve", 0, 1, 1), ("rt_part", 1, 1), ("rt_reserve", 0, 3, 2)]
        line += [("rt_unreserve", 0, 1, 1)]
        self.assertEqual(ask(line)[-2:], [[2], [0]])
        self.assertEqual(ask(line + [("rt_applies", 0, 0, 1, a) for a in range(4)])[-4:], [[1]] * 4)
        self.assertEqual(ask(line + [("rt_applies", 0, 0, 3, a) for a in range(4)])[-4:], [[1], [0], [0], [1]])

    def test_it_objects_as_its_parent(self):
        line = signed(4, (0, 1, 2, 3)) + [("rt_reserve", 0, i, 0) for i in range(3)]
        line += [("rt_object", 0, 1, 0), ("rt_object", 0, 3, 0), ("rt_part", 1, 1)]
        self.assertEqual(last(line + [("rt_object", 0, 4, 0)]), [-17])
        self.assertEqual(last(line + [("rt_accept", 0, 4, 0)]), [2])
        self.assertEqual(last(line + [("rt_accept", 0, 1, 0)]), [2])
        self.assertEqual(last(line + [("rt_object", 0, 4, 2)]), [4])

    def test_it_is_objected_to_as_its_parent(self):
        line = signed(4, (0, 1, 2, 3)) + [("rt_reserve", 0, 1, 0), ("rt_object", 0, 0, 1), ("rt_object", 0, 3, 1)]
        line += [("rt_part", 1, 1)]
        self.assertEqual(ask(line + [("rt_object", 0, 0, 4), ("rt_object", 0, 3, 4)])[-2:], [[-17], [-17]])
        self.assertEqual(last(line + [("rt_object", 0, 2, 4)]), [5])
        self.assertEqual(ask(line + [("rt_accept", 0, 0, 4), ("rt_accept", 0, 3, 1)])[-2:], [[3], [2]])
        self.assertEqual(ask(line + [("rt_between", 0, j, 4) for j in range(4)])[-4:], [[0], [1], [1], [0]])

    def test_both_ways_at_once(self):
        line = signed(3, (0, 1, 2)) + [("rt_reserve", 0, i, 0) for i in range(3)]
        line += [("rt_object", 0, 0, 1), ("rt_object", 0, 1, 0), ("rt_part", 1, 1)]
        # 0 to 1, 1 to 0, 0 to 3, 3 to 0.
        self.assertEqual(ask(line + [("rt_accept", 0, 3, 0), ("rt_accept", 0, 0, 3), ("rt_accept", 0, 1, 0)])[-3:],
                         [[3], [2], [1]])

    def test_neither_objects_to_the_other(self):
        line = signed(3, (0, 1, 2), 2) + [("rt_reserve", 0, i, 0) for i in range(3)]
        line += [("rt_object", 0, j, i) for j in range(3) for i in range(3) if i != j] + [("rt_part", 1, 1)]
        self.assertEqual(ask(line + [("rt_accept", 0, 1, 3), ("rt_accept", 0, 3, 1)])[-2:], [[-6], [-6]])
        self.assertEqual(ask(line + [("rt_between", 0, 1, 3), ("rt_between", 0, 3, 1)])[-2:], [[1], [1]])
        self.assertEqual(ask(line + [("rt_applies", 0, 1, 3, a) for a in (0, 1)])[-2:], [[0], [1]])
        self.assertEqual(ask(line + [("rt_object", 0, 1, 3), ("rt_object", 0, 3, 1)])[-2:], [[11], [12]])

    def test_it_favours_nobody_and_nobody_it(self):
        line = signed(4, (0, 1)) + [("rt_favour", 1, 0), ("rt_favour", 1, 2), ("rt_favour", 3, 1), ("rt_part", 1, 1)]
        self.assertEqual(last(line + [("rt_state",)]), [1, 5, 3, 1, 9, 0])
        for i in range(4):
            self.assertEqual(ask(line + [("rt_unfavour", 4, i), ("rt_unfavour", i, 4)])[-2:], [[-6], [-6]])
        kept = [("rt_favour", 1, 0), ("rt_favour", 1, 2), ("rt_favour", 3, 1)]
        self.assertEqual(ask(line + kept)[-3:], [[-17]] * 3)

    def test_each_treaty_by_itself(self):
        line = started(3) + treaty(0, [(0, 10), (0, 20)], (0, 1, 2)) + treaty(1, [(0, 30)], (0, 1))
        line += [("rt_reserve", 0, 1, 1), ("rt_reserve", 1, 0, 0), ("rt_object", 1, 1, 0), ("rt_object", 0, 2, 1)]
        line += [("rt_part", 1, 1)]
        calls = [("rt_between", t, 3, j) for t in (0, 1) for j in range(3)]
        self.assertEqual(ask(line + calls)[-6:], [[1], [1], [0], [0], [1], [0]])
        self.assertEqual(ask(line + [("rt_rule", 3, 0, 0), ("rt_rule", 3, 1, 0)])[-2:], [[0, 0, 10], [1, 0, 30]])


class Offers(unittest.TestCase):
    def test_the_offers_of_its_parent_stay_and_it_has_none(self):
        for mode in (0, 1):
            line = [("rt_start", 3), ("rt_treaty", 2), ("rt_article", 0, 0, 5), ("rt_offer", 0, 1, 1, 1)]
            line += [("rt_offer", 0, 0, 0, 0), ("rt_offer", 0, 2, 3, 0), ("rt_part", 1, mode)]
            calls = [("rt_joiners", 0), ("rt_waits", 0), ("rt_first", 0)]
            calls += [("rt_unoffer", 0, 3), ("rt_offer", 0, 3, 0, 0)]
            self.assertEqual(ask(line + calls)[-5:], [[2, 3], [1, 4], [0, 0], [-6], [0]])
            self.assertEqual(last(line + [("rt_conclude", 0), ("rt_members", 0)]), [2, 3, 1])

    def test_a_new_state_offers_and_is_named(self):
        line = [("rt_start", 4), ("rt_part", 1, 1), ("rt_part", 4, 0), ("rt_treaty", 6), ("rt_article", 0, 0, 5)]
        line += [("rt_offer", 0, i, 5, 63 - (1 << i)) for i in range(6)]
        self.assertEqual(ask(line + [("rt_joiners", 0), ("rt_conclude", 0), ("rt_members", 0)])[-3:],
                         [[6, 63], [6], [6, 63, 1]])
        self.assertEqual(ask(line + [("rt_offer", 0, 5, 6, 0), ("rt_waits", 0), ("rt_first", 0)])[-2:],
                         [[6, 63], [1, 32]])

    def test_it_may_be_named_only_once_it_is_there(self):
        line = [("rt_start", 2), ("rt_treaty", 2)]
        self.assertEqual(last(line + [("rt_offer", 0, 0, 3, 0)]), [-22])
        self.assertEqual(last(line + [("rt_offer", 0, 0, 0, 4)]), [-22])
        self.assertEqual(last(line + [("rt_part", 0, 0), ("rt_offer", 0, 0, 3, 4)]), [0])
        self.assertEqual(last(line + [("rt_part", 0, 0), ("rt_offer", 0, 2, 0, 4)]), [-22])

    def test_a_treaty_may_need_all_of_them(self):
        line = [("rt_start", 2), ("rt_treaty", 3), ("rt_part", 0, 0), ("rt_treaty", 3), ("rt_treaty", 4)]
        self.assertEqual(ask(line)[1:], [[-22], [2], [0], [-22]])

    def test_a_new_state_does_what_members_do(self):
        line = signed(6, (0, 1), 2) + [("rt_accede", 0, 5), ("rt_accede", 0, 4), ("rt_reserve", 0, 5, 1)]
        line += [("rt_object", 0, 4, 5), ("rt_object", 0, 0, 5), ("rt_reserve", 0, 0, 0), ("rt_object", 0, 5, 0)]
        line += [("rt_unreserve", 0, 5, 1), ("rt_leave", 0, 5), ("rt_members", 0)]
        self.assertEqual(ask(line)[-10:], [[3], [4], [1], [1], [2], [1], [3], [0], [3], [3, 19, 1]])


if __name__ == "__main__":
    unittest.main()
