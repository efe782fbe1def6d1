"""Point 2: rt_treaty and rt_article."""

import unittest

from tests.helper import GREATEST, NUMBERS, ask, last, signed
from treatyregistry.registry import Registry


class OneMoreTreaty(unittest.TestCase):
    def test_numbered_from_0_up_to_four(self):
        line = [("rt_start", 2)] + [("rt_treaty", 2)] * 6
        self.assertEqual(ask(line)[1:], [[0], [1], [2], [3], [-28], [-28]])

    def test_two_to_as_many_as_there_are_states(self):
        for n in (2, 3, 4):
            for need in (0, 1, 2, 3, 4, 5, 6, GREATEST):
                wanted = 0 if 2 <= need <= n else -22
                self.assertEqual(last([("rt_start", n), ("rt_treaty", need)]), [wanted], (n, need))

    def test_wrong_is_told_ahead_of_full(self):
        line = [("rt_start", 3)] + [("rt_treaty", 3)] * 4
        self.assertEqual(last(line + [("rt_treaty", 4)]), [-22])
        self.assertEqual(last(line + [("rt_treaty", 1)]), [-22])
        self.assertEqual(last(line + [("rt_treaty", 2)]), [-28])

    def test_it_has_no_articles_and_no_offers(self):
        line = [("rt_start", 2), ("rt_treaty", 2), ("rt_conclude", 0), ("rt_unoffer", 0, 0), ("rt_article", 0, 0, 0)]
        self.assertEqual(ask(line)[2:], [[-6], [-6], [0]])

    def test_as_many_must_join_as_told(self):
        for need in (2, 3, 4):
            for many in range(5):
                line = [("rt_start", 4), ("rt_treaty", need), ("rt_article", 0, 0, 0)]
                line += [("rt_offer", 0, i, 0, 0) for i in range(many)]
                self.assertEqual(last(line + [("rt_conclude", 0)]), [many if many >= need else -33])


class OneMoreArticle(unittest.TestCase):
    def test_numbered_from_0_up_to_four(self):
        line = [("rt_start", 2), ("rt_treaty", 2), ("rt_treaty", 2)] + [("rt_article", 0, 0, 0)] * 6
        self.assertEqual(ask(line)[3:], [[0], [1], [2], [3], [-28], [-28]])
        self.assertEqual(last(line + [("rt_article", 1, 0, 0)]), [0])

    def test_subject_0_to_3(self):
        for s, wanted in ((0, 0), (1, 0), (2, 0), (3, 0), (4, -22), (5, -22), (GREATEST, -22)):
            self.assertEqual(last([("rt_start", 2), ("rt_treaty", 2), ("rt_article", 0, s, 7)]), [wanted])

    def test_no_more_than_100(self):
        for x, wanted in ((0, 0), (1, 0), (99, 0), (100, 0), (101, -22), (102, -22), (GREATEST, -22)):
            self.assertEqual(last([("rt_start", 2), ("rt_treaty", 2), ("rt_article", 0, 1, x)]), [wanted])

    def test_not_once_concluded(self):
        self.assertEqual(last(signed(2, (0, 1)) + [("rt_article", 0, 0, 0)]), [-16])
        self.assertEqual(last(signed(2, (0, 1)) + [("rt_treaty", 2), ("rt_article", 1, 0, 0)]), [0])

    def test_refusals_in_their_order(self):
        full = [("rt_start", 2), ("rt_treaty", 2)] + [("rt_article", 0, 0, 0)] * 4
        self.assertEqual(last(full + [("rt_article", 0, 4, 0)]), [-22])
        self.assertEqual(last(full + [("rt_article", 0, 0, 101)]), [-22])
        both = signed(2, (0, 1), 4)
        self.assertEqual(last(both + [("rt_article", 0, 4, 0)]), [-22])
        self.assertEqual(last(both + [("rt_article", 0, 3, 101)]), [-22])
        self.assertEqual(last(both + [("rt_article", 0, 3, 100)]), [-16])

    def test_subject_and_how_much_are_kept(self):
        kept = Registry()
        for call in (("rt_start", 2), ("rt_treaty", 2), ("rt_article", 0, 3, 100), ("rt_article", 0, 1, 0)):
            kept.answer(NUMBERS[call[0]], list(call[1:]))
        self.assertEqual(kept.world.treaties[0].articles, [(3, 100), (1, 0)])


if __name__ == "__main__":
    unittest.main()
