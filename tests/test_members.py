"""Point 4: rt_accede, rt_leave, rt_members, rt_reserve, rt_unreserve, rt_object and rt_accept."""

import unittest

from tests.helper import GREATEST, ask, asked, concluded, last, signed


class Accede(unittest.TestCase):
    def test_how_many_are(self):
        self.assertEqual(ask(signed(4, (1, 2)) + [("rt_accede", 0, 3), ("rt_accede", 0, 0)])[-2:], [[3], [4]])

    def test_not_concluded(self):
        line = [("rt_start", 2), ("rt_treaty", 2), ("rt_article", 0, 0, 0), ("rt_offer", 0, 0, 0, 0)]
        self.assertEqual(last(line + [("rt_accede", 0, 0)]), [-6])
        self.assertEqual(last(line + [("rt_accede", 0, 1)]), [-6])

    def test_a_member_already(self):
        self.assertEqual(last(signed(3, (0, 1)) + [("rt_accede", 0, 1)]), [-17])
        self.assertEqual(last(signed(3, (0, 1)) + [("rt_accede", 0, 2), ("rt_accede", 0, 2)]), [-17])

    def test_it_may_do_what_members_do(self):
        line = signed(3, (0, 1)) + [("rt_accede", 0, 2), ("rt_reserve", 0, 2, 0), ("rt_object", 0, 0, 2)]
        self.assertEqual(ask(line)[-3:], [[3], [1], [1]])

    def test_each_treaty_has_its_own_members(self):
        line = signed(3, (0, 1)) + concluded((1, 2), t=1)
        calls = [("rt_accede", 0, 0), ("rt_accede", 0, 2), ("rt_accede", 1, 0), ("rt_accede", 1, 2)]
        self.assertEqual(ask(line + calls)[-4:], [[-17], [3], [3], [-17]])

    def test_again_when_all_left(self):
        line = signed(2, (0, 1)) + [("rt_leave", 0, 0), ("rt_leave", 0, 1), ("rt_accede", 0, 1), ("rt_accede", 0, 0)]
        self.assertEqual(ask(line)[-4:], [[1], [0], [1], [2]])


class Leave(unittest.TestCase):
    def test_how_many_are(self):
        line = signed(4, (0, 1, 3)) + [("rt_leave", 0, 1), ("rt_leave", 0, 3), ("rt_leave", 0, 0)]
        self.assertEqual(ask(line)[-3:], [[2], [1], [0]])

    def test_no_member(self):
        self.assertEqual(last(signed(3, (0, 1)) + [("rt_leave", 0, 2)]), [-6])
        self.assertEqual(last(signed(3, (0, 1)) + [("rt_leave", 0, 1), ("rt_leave", 0, 1)]), [-6])
        line = [("rt_start", 2), ("rt_treaty", 2), ("rt_offer", 0, 0, 0, 0), ("rt_leave", 0, 0)]
        self.assertEqual(last(line), [-6])

    def test_it_is_none_any_more(self):
        line = signed(3, (0, 1, 2)) + [("rt_reserve", 0, 1, 0), ("rt_leave", 0, 0)]
        line += [("rt_object", 0, 0, 1), ("rt_reserve", 0, 0, 0)]
        self.assertEqual(ask(line)[-2:], [[-6], [-6]])

    def test_what_it_reserved_goes(self):
        line = signed(3, (0, 1, 2), 2) + [("rt_reserve", 0, 1, 0), ("rt_reserve", 0, 1, 1), ("rt_leave", 0, 1)]
        self.assertEqual(ask(line + [("rt_unreserve", 0, 1, 0), ("rt_object", 0, 0, 1)])[-2:], [[-6], [-6]])
        calls = [("rt_accede", 0, 1), ("rt_object", 0, 0, 1), ("rt_reserve", 0, 1, 1), ("rt_reserve", 0, 1, 0)]
        self.assertEqual(ask(line + calls)[-4:], [[3], [-6], [1], [2]])

    def test_objections_to_it_go(self):
        line = signed(3, (0, 1, 2)) + [("rt_reserve", 0, 1, 0), ("rt_object", 0, 0, 1), ("rt_object", 0, 2, 1)]
        line += [("rt_leave", 0, 1), ("rt_accede", 0, 1), ("rt_reserve", 0, 1, 0)]
        calls = [("rt_object", 0, 2, 1), ("rt_object", 0, 0, 1), ("rt_object", 0, 0, 1)]
        self.assertEqual(ask(line + calls)[-3:], [[1], [2], [-17]])

    def test_its_own_objections_go(self):
        line = signed(3, (0, 1, 2)) + [("rt_reserve", 0, i, 0) for i in (0, 1, 2)]
        line += [("rt_object", 0, 0, 1), ("rt_object", 0, 0, 2), ("rt_leave", 0, 0), ("rt_accede", 0, 0)]
        self.assertEqual(ask(line + [("rt_object", 0, 0, 2), ("rt_object", 0, 0, 1)])[-2:], [[1], [2]])

    def test_nobody_elses_go(self):
        line = signed(3, (0, 1, 2)) + [("rt_reserve", 0, i, 0) for i in (0, 1, 2)]
        line += [("rt_object", 0, 1, 2), ("rt_object", 0, 2, 1), ("rt_object", 0, 0, 1), ("rt_leave", 0, 0)]
        calls = [("rt_object", 0, 1, 2), ("rt_object", 0, 2, 1), ("rt_reserve", 0, 1, 0), ("rt_reserve", 0, 2, 0)]
        self.assertEqual(ask(line + calls)[-4:], [[-17]] * 4)

    def test_only_from_that_treaty(self):
        line = signed(2, (0, 1)) + concluded((0, 1), t=1) + [("rt_reserve", t, 1, 0) for t in (0, 1)]
        line += [("rt_object", 0, 0, 1), ("rt_object", 1, 0, 1), ("rt_leave", 0, 1)]
        calls = [("rt_object", 1, 0, 1), ("rt_reserve", 1, 1, 0), ("rt_accede", 1, 1), ("rt_accede", 0, 1)]
        self.assertEqual(ask(line + calls)[-4:], [[-17], [-17], [-17], [2]])


class Members(unittest.TestCase):
    def test_not_concluded(self):
        line = [("rt_start", 3), ("rt_treaty", 2), ("rt_members", 0), ("rt_article", 0, 0, 0), ("rt_members", 0)]
        line += [("rt_offer", 0, 0, 0, 0), ("rt_offer", 0, 1, 0, 0), ("rt_members", 0)]
        told = ask(line)
        self.assertEqual([told[2], told[4], told[7]], [[0, 0, 0]] * 3)

    def test_how_many_the_set_and_the_turn(self):
        self.assertEqual(last(signed(4, (1, 3)) + [("rt_members", 0)]), [2, 10, 1])
        self.assertEqual(last(signed(6, (0, 4, 5)) + [("rt_members", 0)]), [3, 49, 1])
        self.assertEqual(last(signed(6, range(6)) + [("rt_members", 0)]), [6, 63, 1])

    def test_only_those_who_would_join(self):
        line = [("rt_start", 4), ("rt_treaty", 2), ("rt_article", 0, 0, 0), ("rt_offer", 0, 0, 4, 0)]
        line += [("rt_offer", 0, 1, 1, 0), ("rt_offer", 0, 2, 0, 0), ("rt_conclude", 0), ("rt_members", 0)]
        self.assertEqual(last(line), [2, 6, 1])

    def test_who_accedes_and_who_leaves(self):
        line = signed(4, (1, 2)) + [("rt_accede", 0, 3), ("rt_members", 0), ("rt_leave", 0, 1), ("rt_members", 0)]
        line += [("rt_leave", 0, 2), ("rt_leave", 0, 3), ("rt_members", 0), ("rt_accede", 0, 0), ("rt_members", 0)]
        told = ask(line)
        self.assertEqual([told[at] for at in (-8, -6, -3, -1)], [[3, 14, 1], [2, 12, 1], [0, 0, 1], [1, 1, 1]])

    def test_turns_in_the_order_they_were_concluded_in(self):
        line = [("rt_start", 3)] + [("rt_treaty", 2)] * 4
        for t in (2, 0, 3, 1):
            line += concluded((0, 1, 2), t=t)[1:]
            line += [("rt_leave", t, 0)]
        told = ask(line + [("rt_members", t) for t in range(4)])[-4:]
        self.assertEqual(told, [[2, 6, 2], [2, 6, 4], [2, 6, 1], [2, 6, 3]])

    def test_refused_conclusions_take_no_turn(self):
        line = signed(2, (0, 1)) + [("rt_conclude", 0), ("rt_treaty", 2), ("rt_conclude", 1), ("rt_article", 1, 0, 0)]
        line += [("rt_conclude", 1), ("rt_offer", 1, 0, 0, 0), ("rt_offer", 1, 1, 0, 0), ("rt_conclude", 1)]
        self.assertEqual(last(line + [("rt_members", 1)]), [2, 3, 2])

    def test_none_there(self):
        for t in (1, 2, 4, GREATEST):
            self.assertEqual(last(signed(2, (0, 1)) + [("rt_members", t)]), [-2])
        self.assertEqual(last([("rt_start", 2), ("rt_members", 0)]), [-2])


class Reserve(unittest.TestCase):
    def test_how_many_it_reserved(self):
        line = signed(2, (0, 1), 4) + [("rt_reserve", 0, 1, 3)] + [("rt_reserve", 0, 0, a) for a in (2, 0, 3, 1)]
        self.assertEqual(ask(line)[-5:], [[1], [1], [2], [3], [4]])

    def test_no_member(self):
        self.assertEqual(last(signed(3, (0, 1)) + [("rt_reserve", 0, 2, 0)]), [-6])
        line = [("rt_start", 2), ("rt_treaty", 2), ("rt_article", 0, 0, 0), ("rt_offer", 0, 0, 0, 0)]
        self.assertEqual(last(line + [("rt_reserve", 0, 0, 0)]), [-6])

    def test_reserved_already(self):
        line = signed(2, (0, 1), 2) + [("rt_reserve", 0, 0, 1), ("rt_reserve", 0, 0, 1)]
        self.assertEqual(last(line), [-17])
        self.assertEqual(last(line + [("rt_reserve", 0, 0, 0)]), [2])
        self.assertEqual(last(line + [("rt_reserve", 0, 1, 1)]), [1])

    def test_each_treaty_apart(self):
        line = signed(2, (0, 1)) + concluded((0, 1), t=1)
        self.assertEqual(ask(line + [("rt_reserve", 0, 0, 0), ("rt_reserve", 1, 0, 0)])[-2:], [[1], [1]])


class Unreserve(unittest.TestCase):
    def test_how_many_it_reserved(self):
        line = signed(2, (0, 1), 3) + [("rt_reserve", 0, 0, a) for a in (0, 1, 2)]
        line += [("rt_unreserve", 0, 0, a) for a in (1, 2, 0)]
        self.assertEqual(ask(line)[-3:], [[2], [1], [0]])

    def test_it_did_not(self):
        line = signed(3, (0, 1), 2) + [("rt_reserve", 0, 0, 1)]
        for i, a in ((0, 0), (1, 1), (2, 1)):
            self.assertEqual(last(line + [("rt_unreserve", 0, i, a)]), [-6])
        self.assertEqual(last(line + [("rt_unreserve", 0, 0, 1), ("rt_unreserve", 0, 0, 1)]), [-6])
        line = [("rt_start", 2), ("rt_treaty", 2), ("rt_article", 0, 0, 0), ("rt_unreserve", 0, 0, 0)]
        self.assertEqual(last(line), [-6])

    def test_it_may_reserve_it_again(self):
        line = signed(2, (0, 1), 2) + [("rt_reserve", 0, 0, 1), ("rt_unreserve", 0, 0, 1), ("rt_reserve", 0, 0, 1)]
        self.assertEqual(last(line), [1])

    def test_with_the_only_one_objections_go(self):
        line = signed(3, (0, 1, 2), 2) + [("rt_reserve", 0, 1, 0), ("rt_object", 0, 0, 1), ("rt_object", 0, 2, 1)]
        line += [("rt_unreserve", 0, 1, 0)]
        self.assertEqual(last(line + [("rt_object", 0, 0, 1)]), [-6])
        calls = [("rt_reserve", 0, 1, 1), ("rt_object", 0, 2, 1), ("rt_object", 0, 0, 1)]
        self.assertEqual(ask(line + calls)[-3:], [[1], [1], [2]])

    def test_while_another_is_left_they_stay(self):
        line = signed(3, (0, 1, 2), 2) + [("rt_reserve", 0, 1, 0), ("rt_reserve", 0, 1, 1), ("rt_object", 0, 0, 1)]
        line += [("rt_unreserve", 0, 1, 0), ("rt_object", 0, 0, 1), ("rt_object", 0, 2, 1)]
        self.assertEqual(ask(line)[-3:], [[1], [-17], [2]])

    def test_its_own_objections_and_others_stay(self):
        line = signed(3, (0, 1, 2)) + [("rt_reserve", 0, i, 0) for i in (0, 1, 2)]
        line += [("rt_object", 0, 1, 0), ("rt_object", 0, 0, 2), ("rt_unreserve", 0, 1, 0)]
        self.assertEqual(ask(line + [("rt_object", 0, 1, 0), ("rt_object", 0, 0, 2)])[-2:], [[-17], [-17]])


class Object(unittest.TestCase):
    def test_how_many_there_are(self):
        line = signed(4, (0, 1, 2, 3)) + [("rt_reserve", 0, i, 0) for i in range(4)]
        pairs = [(j, i) for j in range(4) for i in range(4) if j != i]
        told = ask(line + [("rt_object", 0, j, i) for j, i in pairs])[-12:]
        self.assertEqual(told, [[many] for many in range(1, 13)])

    def test_only_that_treatys_are_counted(self):
        line = signed(2, (0, 1)) + concluded((0, 1), t=1) + [("rt_reserve", t, 1, 0) for t in (0, 1)]
        self.assertEqual(ask(line + [("rt_object", 0, 0, 1), ("rt_object", 1, 0, 1)])[-2:], [[1], [1]])

    def test_first_told_is_who_objects(self):
        line = signed(3, (0, 1)) + [("rt_reserve", 0, 1, 0)]
        self.assertEqual(last(line + [("rt_object", 0, 0, 1)]), [1])
        self.assertEqual(last(line + [("rt_object", 0, 1, 0)]), [-6])

    def test_to_oneself(self):
        line = signed(3, (0, 1)) + [("rt_reserve", 0, 1, 0)]
        for i in range(3):
            self.assertEqual(last(line + [("rt_object", 0, i, i)]), [-22])

    def test_no_member_or_nothing_reserved(self):
        line = signed(4, (0, 1, 2)) + [("rt_reserve", 0, 1, 0)]
        for j, i in ((3, 1), (0, 2), (0, 3), (3, 0), (1, 0)):
            self.assertEqual(last(line + [("rt_object", 0, j, i)]), [-6])
        self.assertEqual(last([("rt_start", 2), ("rt_treaty", 2), ("rt_object", 0, 0, 1)]), [-6])

    def test_it_objects_already(self):
        line = signed(3, (0, 1, 2), 2) + [("rt_reserve", 0, 1, 0), ("rt_object", 0, 0, 1)]
        self.assertEqual(last(line + [("rt_object", 0, 0, 1)]), [-17])
        self.assertEqual(last(line + [("rt_reserve", 0, 1, 1), ("rt_object", 0, 0, 1)]), [-17])

    def test_one_way_is_not_the_other(self):
        line = signed(2, (0, 1)) + [("rt_reserve", 0, 0, 0), ("rt_reserve", 0, 1, 0), ("rt_object", 0, 0, 1)]
        self.assertEqual(last(line + [("rt_object", 0, 1, 0)]), [2])


class Accept(unittest.TestCase):
    LINE = signed(4, (0, 1, 2), 2) + [("rt_reserve", 0, i, 0) for i in (0, 1, 2)] + [
        ("rt_object", 0, 0, 1), ("rt_object", 0, 1, 0), ("rt_object", 0, 2, 1), ("rt_object", 0, 0, 2)]

    def test_how_many_there_are(self):
        calls = [("rt_accept", 0, 2, 1), ("rt_accept", 0, 0, 1), ("rt_accept", 0, 0, 2), ("rt_accept", 0, 1, 0)]
        self.assertEqual(ask(self.LINE + calls)[-4:], [[3], [2], [1], [0]])

    def test_only_that_treatys_are_counted(self):
        line = signed(2, (0, 1)) + concluded((0, 1), t=1)
        line += [("rt_reserve", t, i, 0) for t in (0, 1) for i in (0, 1)]
        line += [("rt_object", t, j, 1 - j) for t in (0, 1) for j in (0, 1)]
        self.assertEqual(ask(line + [("rt_accept", 1, 0, 1), ("rt_accept", 0, 1, 0)])[-2:], [[1], [1]])
        self.assertEqual(last(line + [("rt_accept", 1, 0, 1), ("rt_object", 0, 0, 1)]), [-17])

    def test_it_does_not_object(self):
        for j, i in ((1, 2), (2, 0), (0, 3), (3, 0), (0, 0), (1, 1), (3, 3)):
            self.assertEqual(last(self.LINE + [("rt_accept", 0, j, i)]), [-6])
        self.assertEqual(last(self.LINE + [("rt_accept", 0, 0, 1), ("rt_accept", 0, 0, 1)]), [-6])
        self.assertEqual(last(self.LINE + [("rt_leave", 0, 0), ("rt_accept", 0, 0, 1)]), [-6])
        self.assertEqual(last(self.LINE + [("rt_unreserve", 0, 1, 0), ("rt_accept", 0, 0, 1)]), [-6])

    def test_not_concluded(self):
        self.assertEqual(last([("rt_start", 2), ("rt_treaty", 2), ("rt_accept", 0, 0, 1)]), [-6])

    def test_what_it_reserved_stays(self):
        line = self.LINE + [("rt_accept", 0, 0, 1), ("rt_accept", 0, 2, 1)]
        self.assertEqual(ask(line + [("rt_reserve", 0, 1, 0), ("rt_object", 0, 0, 1)])[-2:], [[-17], [3]])

    def test_as_if_it_had_never_objected(self):
        without = [call for call in self.LINE if call != ("rt_object", 0, 2, 1)]
        self.assertEqual(asked(self.LINE + [("rt_accept", 0, 2, 1)])[:-1], asked(without)[:-1])

    def test_edges(self):
        for j, i in ((4, 0), (0, 4), (5, 5), (GREATEST, 1), (0, GREATEST)):
            self.assertEqual(last(self.LINE + [("rt_accept", 0, j, i)]), [-2])
        self.assertEqual(last(self.LINE + [("rt_accept", 1, 0, 1)]), [-2])
        self.assertEqual(last(self.LINE + [("rt_accept", GREATEST, 0, 1)]), [-2])


if __name__ == "__main__":
    unittest.main()
