"""Point 4: rt_favour and rt_unfavour."""

import unittest

from tests.helper import GREATEST, ask, last, started


class Favour(unittest.TestCase):
    def test_how_many_there_are_of_all(self):
        for n in (2, 3, 4, 5, 6):
            pairs = [(i, j) for i in range(n) for j in range(n) if i != j]
            told = ask(started(n) + [("rt_favour", i, j) for i, j in pairs])[-len(pairs):]
            self.assertEqual(told, [[many] for many in range(1, len(pairs) + 1)])

    def test_oneself(self):
        for n in (2, 4, 6):
            for i in range(n):
                self.assertEqual(last(started(n) + [("rt_favour", i, i)]), [-22])

    def test_it_does_already(self):
        line = started(3) + [("rt_favour", 0, 2)]
        self.assertEqual(last(line + [("rt_favour", 0, 2)]), [-17])
        self.assertEqual(last(line + [("rt_favour", 0, 1), ("rt_favour", 0, 2)]), [-17])

    def test_one_way_is_not_the_other(self):
        self.assertEqual(last(started(3) + [("rt_favour", 0, 2), ("rt_favour", 2, 0)]), [2])

    def test_none_there(self):
        for n in (2, 3, 4, 5, 6):
            for i, j in ((n, 0), (0, n), (n, n), (GREATEST, 0), (0, GREATEST), (GREATEST, GREATEST), (32, 1)):
                self.assertEqual(last(started(n) + [("rt_favour", i, j)]), [-2])
            self.assertEqual(last(started(n) + [("rt_favour", n - 1, 0)]), [1])
            self.assertEqual(last(started(n) + [("rt_favour", 0, n - 1)]), [1])

    def test_no_treaty_is_needed_and_none_is_changed(self):
        line = started(2) + [("rt_favour", 0, 1)]
        self.assertEqual(last(line + [("rt_state",)]), [0, 2, 1, 0, 1, 0])
        self.assertEqual(last(line + [("rt_treaty", 2), ("rt_told", 0)]), [0, 2] + [0] * 8)


class Unfavour(unittest.TestCase):
    LINE = started(3) + [("rt_favour", 0, 1), ("rt_favour", 0, 2), ("rt_favour", 2, 0)]

    def test_how_many_there_are_of_all(self):
        calls = [("rt_unfavour", 0, 2), ("rt_unfavour", 2, 0), ("rt_unfavour", 0, 1)]
        self.assertEqual(ask(self.LINE + calls)[-3:], [[2], [1], [0]])

    def test_it_does_not(self):
        for i, j in ((1, 0), (1, 2), (2, 1), (0, 0), (1, 1), (2, 2)):
            self.assertEqual(last(self.LINE + [("rt_unfavour", i, j)]), [-6])
        self.assertEqual(last(self.LINE + [("rt_unfavour", 0, 1), ("rt_unfavour", 0, 1)]), [-6])
        self.assertEqual(last(started(2) + [("rt_unfavour", 0, 1)]), [-6])

    def test_it_may_again(self):
        self.assertEqual(last(self.LINE + [("rt_unfavour", 0, 1), ("rt_favour", 0, 1)]), [3])

    def test_the_others_stay(self):
        line = self.LINE + [("rt_unfavour", 0, 2)]
        self.assertEqual(ask(line + [("rt_favour", 0, 1), ("rt_favour", 2, 0)])[-2:], [[-17], [-17]])

    def test_none_there(self):
        for i, j in ((3, 0), (0, 3), (3, 3), (5, 1), (GREATEST, 0), (0, GREATEST)):
            self.assertEqual(last(self.LINE + [("rt_unfavour", i, j)]), [-2])


if __name__ == "__main__":
    unittest.main()
