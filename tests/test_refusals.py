"""A refusal changes nothing: whatever comes behind it is answered as if it hadn't been called."""

import unittest

from tests.helper import GREATEST, ask, last, seen, signed

# Treaty 0 is concluded with 0, 1, 2 and has four articles; treaty 1 has offers; treaty 2 has no articles.
OPEN = signed(4, (0, 1, 2), 4) + [
    ("rt_reserve", 0, 1, 0), ("rt_reserve", 0, 1, 2), ("rt_reserve", 0, 2, 1), ("rt_object", 0, 0, 1),
    ("rt_object", 0, 1, 2), ("rt_treaty", 3), ("rt_article", 1, 2, 9), ("rt_offer", 1, 0, 1, 8),
    ("rt_offer", 1, 3, 3, 0), ("rt_offer", 1, 2, 0, 0), ("rt_offer", 1, 1, 4, 1), ("rt_treaty", 2),
    ("rt_offer", 2, 0, 0, 0), ("rt_offer", 2, 1, 1, 0),
]
FULL = OPEN + [("rt_treaty", 4)] + [("rt_article", 1, 0, 0)] * 3

REFUSED = (
    (-22, ("rt_start", 1)), (-22, ("rt_start", 5)), (-22, ("rt_treaty", 1)), (-22, ("rt_treaty", 5)),
    (-2, ("rt_article", 4, 0, 0)), (-22, ("rt_article", 1, 4, 0)), (-22, ("rt_article", 1, 0, 101)),
    (-16, ("rt_article", 0, 0, 0)), (-2, ("rt_offer", 4, 0, 0, 0)), (-2, ("rt_offer", 1, 4, 0, 0)),
    (-22, ("rt_offer", 1, 0, 5, 0)), (-22, ("rt_offer", 1, 0, 0, 16)), (-22, ("rt_offer", 1, 0, 0, 1)),
    (-16, ("rt_offer", 0, 3, 0, 0)), (-2, ("rt_unoffer", 4, 0)), (-2, ("rt_unoffer", 1, 4)),
    (-16, ("rt_unoffer", 0, 0)), (-6, ("rt_unoffer", 2, 3)), (-2, ("rt_joiners", 4)), (-16, ("rt_joiners", 0)),
    (-2, ("rt_waits", 4)), (-16, ("rt_waits", 0)), (-2, ("rt_first", 4)), (-16, ("rt_first", 0)),
    (-2, ("rt_conclude", GREATEST)), (-17, ("rt_conclude", 0)), (-6, ("rt_conclude", 2)), (-33, ("rt_conclude", 1)),
    (-2, ("rt_accede", 4, 0)), (-2, ("rt_accede", 0, 4)), (-6, ("rt_accede", 1, 0)), (-17, ("rt_accede", 0, 0)),
    (-2, ("rt_leave", 4, 0)), (-2, ("rt_leave", 0, 4)), (-6, ("rt_leave", 0, 3)), (-6, ("rt_leave", 1, 0)),
    (-2, ("rt_reserve", 0, 0, 4)), (-6, ("rt_reserve", 0, 3, 0)), (-17, ("rt_reserve", 0, 1, 0)),
    (-2, ("rt_unreserve", 0, 1, 4)), (-6, ("rt_unreserve", 0, 1, 1)), (-6, ("rt_unreserve", 0, 3, 0)),
    (-2, ("rt_object", 0, 4, 1)), (-2, ("rt_object", 0, 0, 4)), (-22, ("rt_object", 0, 1, 1)),
    (-6, ("rt_object", 0, 3, 1)), (-6, ("rt_object", 0, 1, 0)), (-17, ("rt_object", 0, 0, 1)),
)


class ChangesNothing(unittest.TestCase):
    def check(self, before, refusals):
        as_it_was = seen(before, 4, 4)
        for wanted, call in refusals:
            with self.subTest(call=call):
                self.assertEqual(last(before + [call]), [wanted])
                self.assertEqual(seen(before + [call], 4, 4), as_it_was)

    def test_each_refusal(self):
        self.check(OPEN, REFUSED)

    def test_each_refusal_where_all_is_full(self):
        full = ((-28, ("rt_treaty", 2)), (-28, ("rt_article", 1, 0, 0)), (-33, ("rt_first", 3)))
        self.check(FULL, full + ((-33, ("rt_conclude", 1)), (-22, ("rt_treaty", 5)), (-22, ("rt_article", 1, 4, 0))))

    def test_all_of_them_one_behind_another(self):
        calls = [call for wanted, call in REFUSED]
        self.assertEqual(ask(OPEN + calls)[len(OPEN):], [[wanted] for wanted, call in REFUSED])
        self.assertEqual(seen(OPEN + calls, 4, 4), seen(OPEN, 4, 4))

    def test_a_change_would_be_seen(self):
        """Else the tests above would say nothing."""
        as_it_was = seen(OPEN, 4, 4)
        changes = [("rt_treaty", 2), ("rt_article", 1, 0, 0), ("rt_article", 2, 0, 0), ("rt_offer", 2, 2, 0, 0)]
        changes += [("rt_offer", 1, 0, 2, 8), ("rt_offer", 1, 0, 1, 0), ("rt_offer", 1, 3, 2, 0)]
        changes += [("rt_unoffer", 1, 1), ("rt_accede", 0, 3), ("rt_leave", 0, 0), ("rt_leave", 0, 1)]
        changes += [("rt_reserve", 0, 0, 3), ("rt_reserve", 0, 1, 1), ("rt_unreserve", 0, 1, 0)]
        changes += [("rt_unreserve", 0, 2, 1), ("rt_object", 0, 2, 1), ("rt_start", 4), ("rt_start", 3)]
        for call in changes:
            with self.subTest(call=call):
                self.assertGreaterEqual(last(OPEN + [call])[0], 0)
                self.assertNotEqual(seen(OPEN + [call], 4, 4), as_it_was)


if __name__ == "__main__":
    unittest.main()
