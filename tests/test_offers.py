"""Point 3: rt_offer, rt_unoffer, rt_joiners, rt_waits, rt_first and rt_conclude."""

import itertools
import unittest

from tests.helper import GREATEST, ask, concluded, last, signed, started


def laid_out(states, need=2):
    return started(states) + [("rt_treaty", need), ("rt_article", 0, 0, 10)]


class Offer(unittest.TestCase):
    def test_whether_it_had_one(self):
        line = laid_out(3) + [("rt_offer", 0, 1, 0, 0), ("rt_offer", 0, 1, 1, 4), ("rt_offer", 0, 2, 0, 0)]
        line += [("rt_unoffer", 0, 1), ("rt_offer", 0, 1, 0, 0)]
        self.assertEqual(ask(line)[3:], [[0], [1], [0], [1], [0]])

    def test_the_one_it_had_is_gone(self):
        line = laid_out(2) + [("rt_offer", 0, 0, 0, 0), ("rt_offer", 0, 1, 2, 1)]
        self.assertEqual(last(line + [("rt_joiners", 0)]), [1, 1])
        self.assertEqual(last(line + [("rt_offer", 0, 1, 1, 0), ("rt_joiners", 0)]), [2, 3])
        self.assertEqual(last(line + [("rt_offer", 0, 1, 0, 0), ("rt_offer", 0, 0, 2, 0), ("rt_joiners", 0)]), [1, 2])

    def test_needs_as_many_as_there_are_states_at_most(self):
        for n in (2, 3, 4, 5, 6):
            for need in (0, 1, n - 1, n, n + 1, n + 2, GREATEST):
                wanted = 0 if need <= n else -22
                self.assertEqual(last(laid_out(n) + [("rt_offer", 0, 0, need, 0)]), [wanted], (n, need))

    def test_names_others_that_are_there(self):
        sets = list(range(70)) + [128, 256, 1 << 31, (1 << 31) + 1, GREATEST - 1, GREATEST]
        for n in (2, 3, 4, 5, 6):
            for i in range(n):
                for named in sets:
                    right = named < 1 << n and not named >> i & 1
                    wanted = 0 if right else -22
                    self.assertEqual(last(laid_out(n) + [("rt_offer", 0, i, 0, named)]), [wanted], (n, i, named))

    def test_not_once_concluded(self):
        line = signed(3, (0, 1))
        self.assertEqual(last(line + [("rt_offer", 0, 2, 0, 0)]), [-16])
        self.assertEqual(last(line + [("rt_offer", 0, 0, 0, 0)]), [-16])

    def test_wrong_is_told_ahead_of_concluded(self):
        line = signed(3, (0, 1))
        for need, named in ((4, 0), (0, 8), (0, 4), (GREATEST, GREATEST)):
            self.assertEqual(last(line + [("rt_offer", 0, 2, need, named)]), [-22])
        self.assertEqual(last(line + [("rt_offer", 0, 2, 3, 3)]), [-16])

    def test_each_treaty_has_its_own(self):
        line = laid_out(2) + [("rt_treaty", 2), ("rt_offer", 0, 0, 0, 0), ("rt_offer", 1, 0, 1, 0)]
        self.assertEqual(ask(line + [("rt_joiners", 0), ("rt_joiners", 1)])[-4:], [[0], [0], [1, 1], [0, 0]])


class Unoffer(unittest.TestCase):
    def test_how_many_there_are(self):
        line = laid_out(4) + [("rt_offer", 0, i, 0, 0) for i in range(4)]
        line += [("rt_unoffer", 0, i) for i in (2, 0, 3, 1)]
        self.assertEqual(ask(line)[-4:], [[3], [2], [1], [0]])

    def test_only_that_treatys_are_counted(self):
        line = laid_out(3) + [("rt_treaty", 2)] + [("rt_offer", t, i, 0, 0) for t in (0, 1) for i in (0, 1, 2)]
        self.assertEqual(last(line + [("rt_unoffer", 1, 1)]), [2])

    def test_it_has_none(self):
        self.assertEqual(last(laid_out(2) + [("rt_unoffer", 0, 0)]), [-6])
        line = laid_out(2) + [("rt_offer", 0, 0, 0, 0), ("rt_unoffer", 0, 0), ("rt_unoffer", 0, 0)]
        self.assertEqual(last(line), [-6])
        self.assertEqual(last(laid_out(2) + [("rt_offer", 0, 0, 0, 0), ("rt_unoffer", 0, 1)]), [-6])

    def test_concluded_is_told_ahead_of_none(self):
        self.assertEqual(last(signed(3, (0, 1)) + [("rt_unoffer", 0, 2)]), [-16])
        self.assertEqual(last(signed(3, (0, 1)) + [("rt_unoffer", 0, 0)]), [-16])

    def test_it_is_gone(self):
        line = laid_out(3) + [("rt_offer", 0, 0, 1, 0), ("rt_offer", 0, 1, 1, 0), ("rt_unoffer", 0, 1)]
        self.assertEqual(ask(line + [("rt_joiners", 0), ("rt_waits", 0)])[-2:], [[0, 0], [1, 1]])


class WhoWouldJoin(unittest.TestCase):
    def test_nobody_offered(self):
        questions = [("rt_joiners", 0), ("rt_waits", 0), ("rt_first", 0)]
        self.assertEqual(ask(laid_out(2) + questions)[-3:], [[0, 0], [0, 0], [-33]])

    def test_one_alone_that_needs_nobody(self):
        line = laid_out(3) + [("rt_offer", 0, 2, 0, 0), ("rt_joiners", 0), ("rt_waits", 0)]
        self.assertEqual(ask(line)[-2:], [[1, 4], [0, 0]])

    def test_oneself_is_no_other(self):
        line = laid_out(2) + [("rt_offer", 0, 0, 1, 0), ("rt_joiners", 0), ("rt_waits", 0)]
        self.assertEqual(ask(line)[-2:], [[0, 0], [1, 1]])
        line = laid_out(2) + [("rt_offer", 0, 0, 2, 0), ("rt_offer", 0, 1, 1, 0), ("rt_joiners", 0)]
        self.assertEqual(last(line), [0, 0])

    def test_they_hold_together_in_a_ring(self):
        line = laid_out(4) + [("rt_offer", 0, i, 3, 1 << (i + 1) % 4) for i in range(4)]
        self.assertEqual(ask(line + [("rt_joiners", 0), ("rt_waits", 0)])[-2:], [[4, 15], [0, 0]])

    def test_one_that_fails_takes_others_along(self):
        line = laid_out(4) + [("rt_offer", 0, 0, 0, 2), ("rt_offer", 0, 1, 0, 4), ("rt_offer", 0, 2, 0, 8)]
        self.assertEqual(ask(line + [("rt_joiners", 0), ("rt_waits", 0)])[-2:], [[0, 0], [3, 7]])
        line += [("rt_offer", 0, 3, 0, 0)]
        self.assertEqual(ask(line + [("rt_joiners", 0), ("rt_waits", 0)])[-2:], [[4, 15], [0, 0]])

    def test_some_join_and_some_wait(self):
        line = laid_out(4) + [("rt_offer", 0, 0, 1, 0), ("rt_offer", 0, 3, 1, 1), ("rt_offer", 0, 2, 1, 2)]
        self.assertEqual(ask(line + [("rt_joiners", 0), ("rt_waits", 0)])[-2:], [[2, 9], [1, 4]])

    def test_whatever_order_they_offered_in(self):
        offers = [("rt_offer", 0, 0, 2, 0), ("rt_offer", 0, 1, 0, 1)]
        offers += [("rt_offer", 0, 2, 1, 2), ("rt_offer", 0, 3, 4, 0)]
        questions = [("rt_joiners", 0), ("rt_waits", 0), ("rt_first", 0), ("rt_conclude", 0)]
        for order in itertools.permutations(offers):
            told = ask(laid_out(4) + list(order) + questions)[-4:]
            self.assertEqual(told, [[3, 7], [1, 8], [0, 0], [3]])

    def test_not_once_concluded(self):
        questions = [("rt_joiners", 0), ("rt_waits", 0), ("rt_first", 0)]
        self.assertEqual(ask(signed(3, (0, 1)) + questions)[-3:], [[-16]] * 3)

    def test_asking_changes_nothing(self):
        questions = [("rt_joiners", 0), ("rt_waits", 0), ("rt_first", 0)]
        line = laid_out(3) + [("rt_offer", 0, 0, 2, 0), ("rt_offer", 0, 1, 0, 4), ("rt_offer", 0, 2, 0, 0)]
        line += [("rt_offer", 0, 2, 3, 0)]
        told = ask(line + questions * 3)[-9:]
        self.assertEqual(told, [[0, 0], [3, 7], [1, 4]] * 3)


class WhoFirst(unittest.TestCase):
    def test_nobody_if_enough_join_anyway(self):
        line = laid_out(3) + [("rt_offer", 0, 0, 1, 0), ("rt_offer", 0, 1, 1, 0), ("rt_offer", 0, 2, 3, 0)]
        self.assertEqual(last(line + [("rt_first", 0)]), [0, 0])

    def test_not_even_if_all_joined(self):
        line = laid_out(4, 3) + [("rt_offer", 0, 0, 0, 0), ("rt_offer", 0, 1, 0, 0)]
        self.assertEqual(last(line + [("rt_first", 0)]), [-33])
        self.assertEqual(last(line + [("rt_offer", 0, 2, 4, 0), ("rt_first", 0)]), [1, 4])

    def test_all_of_them(self):
        line = laid_out(2) + [("rt_offer", 0, 0, 2, 0), ("rt_offer", 0, 1, 2, 0), ("rt_first", 0)]
        self.assertEqual(last(line), [2, 3])

    def test_the_fewest(self):
        # State 3 is enough, as all others follow it; of the lesser numbers 3 (states 0 and 1) would do too.
        line = laid_out(4) + [("rt_offer", 0, 0, 1, 8), ("rt_offer", 0, 1, 1, 8), ("rt_offer", 0, 2, 1, 8)]
        self.assertEqual(last(line + [("rt_offer", 0, 3, 4, 0), ("rt_first", 0)]), [1, 8])

    def test_of_like_ones_the_least_number(self):
        line = laid_out(4) + [("rt_offer", 0, i, 4, 0) for i in (3, 1, 2, 0)]
        self.assertEqual(last(line + [("rt_first", 0)]), [2, 3])
        line = laid_out(4) + [("rt_offer", 0, 1, 4, 0), ("rt_offer", 0, 2, 1, 8), ("rt_offer", 0, 3, 1, 4)]
        self.assertEqual(last(line + [("rt_unoffer", 0, 1), ("rt_offer", 0, 2, 2, 8), ("rt_first", 0)]), [1, 4])
        line = laid_out(4) + [("rt_offer", 0, 0, 4, 0), ("rt_offer", 0, 3, 2, 4), ("rt_offer", 0, 2, 2, 8)]
        self.assertEqual(last(line + [("rt_first", 0)]), [1, 1])

    def test_only_states_that_offered(self):
        line = laid_out(4) + [("rt_offer", 0, 1, 1, 1), ("rt_offer", 0, 3, 1, 0), ("rt_first", 0)]
        self.assertEqual(last(line), [1, 2])

    def test_a_treaty_without_articles_too(self):
        line = [("rt_start", 2), ("rt_treaty", 2), ("rt_offer", 0, 0, 0, 0), ("rt_offer", 0, 1, 2, 0)]
        self.assertEqual(ask(line + [("rt_joiners", 0), ("rt_waits", 0), ("rt_first", 0)])[-3:],
                         [[1, 1], [1, 2], [1, 2]])


class Conclude(unittest.TestCase):
    def test_with_those_who_would_join(self):
        line = laid_out(4) + [("rt_offer", 0, 0, 1, 0), ("rt_offer", 0, 3, 1, 1), ("rt_offer", 0, 2, 1, 2)]
        line += [("rt_conclude", 0)] + [("rt_reserve", 0, i, 0) for i in range(4)]
        self.assertEqual(ask(line)[-5:], [[2], [1], [-6], [-6], [1]])

    def test_concluded_already(self):
        self.assertEqual(last(signed(2, (0, 1)) + [("rt_conclude", 0)]), [-17])
        left = [("rt_leave", 0, 0), ("rt_leave", 0, 1), ("rt_conclude", 0)]
        self.assertEqual(last(signed(2, (0, 1)) + left), [-17])

    def test_no_articles_is_told_ahead_of_too_few(self):
        line = [("rt_start", 2), ("rt_treaty", 2)]
        self.assertEqual(last(line + [("rt_conclude", 0)]), [-6])
        line += [("rt_offer", 0, 0, 0, 0), ("rt_offer", 0, 1, 0, 0)]
        self.assertEqual(last(line + [("rt_conclude", 0)]), [-6])
        self.assertEqual(last(line + [("rt_article", 0, 0, 0), ("rt_conclude", 0)]), [2])

    def test_fewer_would_join_than_must(self):
        line = laid_out(4, 3) + [("rt_offer", 0, 0, 0, 0), ("rt_offer", 0, 1, 0, 0), ("rt_offer", 0, 2, 3, 0)]
        self.assertEqual(last(line + [("rt_conclude", 0)]), [-33])
        self.assertEqual(last(line + [("rt_offer", 0, 2, 2, 3), ("rt_conclude", 0)]), [3])
        self.assertEqual(last(line + [("rt_offer", 0, 3, 0, 0), ("rt_conclude", 0)]), [4])

    def test_each_has_its_own_turn(self):
        line = signed(2, (0, 1)) + [("rt_treaty", 2)] + concluded((0, 1), t=2) + concluded((0, 1), t=3)
        line += [("rt_leave", 2, 0), ("rt_leave", 2, 1)] + concluded((0, 1), t=1)[1:]
        turns = [("rt_members", t) for t in range(4)]
        self.assertEqual([told[2] for told in ask(line + turns)[-4:]], [1, 4, 2, 3])
        self.assertEqual([told[2] for told in ask(line[:-1] + turns)[-4:]], [1, 0, 2, 3])


if __name__ == "__main__":
    unittest.main()
