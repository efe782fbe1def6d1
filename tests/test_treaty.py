"""Point 2: rt_treaty, rt_article and rt_told."""

import unittest

from tests.helper import GREATEST, ask, last, signed, started


class OneMoreTreaty(unittest.TestCase):
    def test_numbered_from_0_up_to_four(self):
        line = [("rt_start", 2)] + [("rt_treaty", 2)] * 6
        self.assertEqual(ask(line)[1:], [[0], [1], [2], [3], [-28], [-28]])

    def test_two_to_as_many_as_there_are_states(self):
        for n in (2, 3, 4, 5, 6):
            for need in (0, 1, 2, 3, 4, 5, 6, 7, GREATEST):
                wanted = 0 if 2 <= need <= n else -22
                self.assertEqual(last(started(n) + [("rt_treaty", need)]), [wanted], (n, need))

    def test_wrong_is_told_ahead_of_full(self):
        line = [("rt_start", 3)] + [("rt_treaty", 3)] * 4
        self.assertEqual(last(line + [("rt_treaty", 4)]), [-22])
        self.assertEqual(last(line + [("rt_treaty", 1)]), [-22])
        self.assertEqual(last(line + [("rt_treaty", 2)]), [-28])

    def test_it_has_no_articles_and_no_offers(self):
        line = [("rt_start", 2), ("rt_treaty", 2), ("rt_conclude", 0), ("rt_unoffer", 0, 0), ("rt_article", 0, 0, 0)]
        self.assertEqual(ask(line)[2:], [[-6], [-6], [0]])

    def test_as_many_must_join_as_told(self):
        for need in (2, 3, 4, 5, 6):
            for many in range(7):
                line = started(6) + [("rt_treaty", need), ("rt_article", 0, 0, 0)]
                line += [("rt_offer", 0, i, 0, 0) for i in range(many)]
                self.assertEqual(last(line + [("rt_conclude", 0)]), [many if many >= need else -33])


class OneMoreArticle(unittest.TestCase):
    def test_numbered_from_0_up_to_four(self):
        line = [("rt_start", 2), ("rt_treaty", 2), ("rt_treaty", 2)] + [("rt_article", 0, 0, 0)] * 6
        self.assertEqual(ask(line)[3:], [[0], [1], [2], [3], [-28], [-28]])
        self.assertEqual(last(line + [("rt_article", 1, 0, 0)]), [0])

    def test_subject_0_to_3(self):
        for s, wanted in ((0, 0), (1, 0), (2, 0), (3, 0), (4, -22), (5, -22), (GREATEST, -22)):
            self.assertEqual(last([("rt_start", 2), ("rt_treaty", 2), ("rt_article", 0, s, 7)]), [wanted])

    def test_no_more_than_100(self):
        for x, wanted in ((0, 0), (1, 0), (99, 0), (100, 0), (101, -22), (102, -22), (GREATEST, -22)):
            self.assertEqual(last([("rt_start", 2), ("rt_treaty", 2), ("rt_article", 0, 1, x)]), [wanted])

    def test_not_once_concluded(self):
        self.assertEqual(last(signed(2, (0, 1)) + [("rt_article", 0, 0, 0)]), [-16])
        self.assertEqual(last(signed(2, (0, 1)) + [("rt_treaty", 2), ("rt_article", 1, 0, 0)]), [0])

    def test_refusals_in_their_order(self):
        full = [("rt_start", 2), ("rt_treaty", 2)] + [("rt_article", 0, 0, 0)] * 4
        self.assertEqual(last(full + [("rt_article", 0, 4, 0)]), [-22])
        self.assertEqual(last(full + [("rt_article", 0, 0, 101)]), [-22])
        both = signed(2, (0, 1), 4)
        self.assertEqual(last(both + [("rt_article", 0, 4, 0)]), [-22])
        self.assertEqual(last(both + [("rt_article", 0, 3, 101)]), [-22])
        self.assertEqual(last(both + [("rt_article", 0, 3, 100)]), [-16])


class Told(unittest.TestCase):
    def test_no_article(self):
        for n in (2, 3, 4, 5, 6):
            for need in range(2, n + 1):
                self.assertEqual(last(started(n) + [("rt_treaty", need), ("rt_told", 0)]), [0, need] + [0] * 8)

    def test_each_article_in_order(self):
        laid = [(3, 100), (0, 0), (3, 7), (1, 99)]
        line = [("rt_start", 3), ("rt_treaty", 3)]
        for many in range(5):
            numbers = [number for article in laid[:many] for number in article]
            told = last(line + [("rt_article", 0, s, x) for s, x in laid[:many]] + [("rt_told", 0)])
            self.assertEqual(told, [many, 3] + numbers + [0] * (8 - 2 * many))
            self.assertEqual(len(told), 10)

    def test_the_least_and_the_most(self):
        for s, x in ((0, 0), (3, 0), (0, 100), (3, 100), (2, 1)):
            line = [("rt_start", 2), ("rt_treaty", 2), ("rt_article", 0, s, x), ("rt_told", 0)]
            self.assertEqual(last(line), [1, 2, s, x] + [0] * 6)

    def test_each_treaty_has_its_own(self):
        line = [("rt_start", 4)] + [("rt_treaty", need) for need in (2, 4, 3, 2)]
        line += [("rt_article", 2, 1, 5), ("rt_article", 0, 2, 6), ("rt_article", 2, 3, 7)]
        told = ask(line + [("rt_told", t) for t in range(4)])[-4:]
        self.assertEqual(told, [[1, 2, 2, 6] + [0] * 6, [0, 4] + [0] * 8, [2, 3, 1, 5, 3, 7] + [0] * 4,
                                [0, 2] + [0] * 8])

    def test_concluded_or_not(self):
        line = signed(2, (0, 1), 2)
        self.assertEqual(ask(line[:-1] + [("rt_told", 0)])[-1], ask(line + [("rt_told", 0)])[-1])
        self.assertEqual(last(line + [("rt_told", 0)]), [2, 2, 0, 50, 0, 50, 0, 0, 0, 0])

    def test_a_refused_article_is_not_among_them(self):
        line = [("rt_start", 2), ("rt_treaty", 2), ("rt_article", 0, 1, 2), ("rt_article", 0, 4, 2)]
        line += [("rt_article", 0, 1, 101), ("rt_told", 0)]
        self.assertEqual(last(line), [1, 2, 1, 2] + [0] * 6)

    def test_none_there(self):
        self.assertEqual(last([("rt_start", 2), ("rt_told", 0)]), [-2])
        full = [("rt_start", 2)] + [("rt_treaty", 2)] * 4
        for t, wanted in ((3, 10), (4, 1), (5, 1), (GREATEST, 1)):
            told = last(full + [("rt_told", t)])
            self.assertEqual(len(told), wanted)
            self.assertEqual(told[0], 0 if wanted == 10 else -2)


if __name__ == "__main__":
    unittest.main()
