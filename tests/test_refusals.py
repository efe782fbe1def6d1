"""A refusal changes nothing: whatever comes behind it is answered as if it hadn't been called."""

import unittest

from tests.helper import GREATEST, ask, asked, last, seen, signed, steps

# Treaty 0 is concluded with 0, 1, 2 and has four articles; treaty 1 has offers; treaty 2 has no articles.
OPEN = signed(4, (0, 1, 2), 4) + [
    ("rt_reserve", 0, 1, 0), ("rt_reserve", 0, 1, 2), ("rt_reserve", 0, 2, 1), ("rt_object", 0, 0, 1),
    ("rt_object", 0, 1, 2), ("rt_treaty", 3), ("rt_article", 1, 2, 9), ("rt_offer", 1, 0, 1, 8),
    ("rt_offer", 1, 3, 3, 0), ("rt_offer", 1, 2, 0, 0), ("rt_offer", 1, 1, 4, 1), ("rt_treaty", 2),
    ("rt_offer", 2, 0, 0, 0), ("rt_offer", 2, 1, 1, 0), ("rt_favour", 0, 3), ("rt_favour", 2, 0),
]
FULL = OPEN + [("rt_treaty", 4)] + [("rt_article", 1, 0, 0)] * 3 + [("rt_part", 1, 1), ("rt_part", 3, 0)]
# Three changes were taken back and can be done again.
STEPPED = OPEN + [("rt_favour", 0, 2), ("rt_accede", 0, 3), ("rt_part", 1, 1)] + [("rt_back",)] * 3

REFUSED = (
    (-22, ("rt_start", 1)), (-22, ("rt_start", 5)), (-22, ("rt_treaty", 1)), (-22, ("rt_treaty", 5)),
    (-2, ("rt_article", 4, 0, 0)), (-22, ("rt_article", 1, 4, 0)), (-22, ("rt_article", 1, 0, 101)),
    (-16, ("rt_article", 0, 0, 0)), (-2, ("rt_offer", 4, 0, 0, 0)), (-2, ("rt_offer", 1, 4, 0, 0)),
    (-22, ("rt_offer", 1, 0, 5, 0)), (-22, ("rt_offer", 1, 0, 0, 16)), (-22, ("rt_offer", 1, 0, 0, 1)),
    (-16, ("rt_offer", 0, 3, 0, 0)), (-2, ("rt_unoffer", 4, 0)), (-2, ("rt_unoffer", 1, 4)),
    (-16, ("rt_unoffer", 0, 0)), (-6, ("rt_unoffer", 2, 3)), (-2, ("rt_joiners", 4)), (-16, ("rt_joiners", 0)),
    (-2, ("rt_waits", 4)), (-16, ("rt_waits", 0)), (-2, ("rt_first", 4)), (-16, ("rt_first", 0)),
    (-2, ("rt_conclude", GREATEST)), (-17, ("rt_conclude", 0)), (-6, ("rt_conclude", 2)), (-33, ("rt_conclude", 1)),
    (-2, ("rt_accede", 4, 0)), (-2, ("rt_accede", 0, 4)), (-6, ("rt_accede", 1, 0)), (-17, ("rt_accede", 0, 0)),
    (-2, ("rt_leave", 4, 0)), (-2, ("rt_leave", 0, 4)), (-6, ("rt_leave", 0, 3)), (-6, ("rt_leave", 1, 0)),
    (-2, ("rt_reserve", 0, 0, 4)), (-6, ("rt_reserve", 0, 3, 0)), (-17, ("rt_reserve", 0, 1, 0)),
    (-2, ("rt_unreserve", 0, 1, 4)), (-6, ("rt_unreserve", 0, 1, 1)), (-6, ("rt_unreserve", 0, 3, 0)),
    (-2, ("rt_object", 0, 4, 1)), (-2, ("rt_object", 0, 0, 4)), (-22, ("rt_object", 0, 1, 1)),
    (-6, ("rt_object", 0, 3, 1)), (-6, ("rt_object", 0, 1, 0)), (-17, ("rt_object", 0, 0, 1)),
    (-2, ("rt_accept", 4, 0, 1)), (-2, ("rt_accept", 0, 4, 1)), (-2, ("rt_accept", 0, 0, 4)),
    (-6, ("rt_accept", 0, 2, 1)), (-6, ("rt_accept", 0, 1, 1)), (-2, ("rt_favour", 4, 0)), (-2, ("rt_favour", 0, 4)),
    (-22, ("rt_favour", 3, 3)), (-17, ("rt_favour", 2, 0)), (-2, ("rt_unfavour", 4, 0)), (-2, ("rt_unfavour", 0, 4)),
    (-6, ("rt_unfavour", 0, 2)), (-6, ("rt_unfavour", 0, 0)), (-2, ("rt_part", 4, 0)), (-2, ("rt_part", GREATEST, 2)),
    (-22, ("rt_part", 3, 2)), (-22, ("rt_part", 0, GREATEST)), (-2, ("rt_members", 4)), (-2, ("rt_between", 4, 0, 1)),
    (-2, ("rt_between", 0, 4, 4)), (-22, ("rt_between", 0, 0, 0)), (-2, ("rt_applies", 0, 0, 0, 4)),
    (-22, ("rt_applies", 0, 0, 0, 3)), (-2, ("rt_rule", 4, 0, 0)), (-22, ("rt_rule", 0, 0, 0)),
    (-22, ("rt_rule", 0, 1, 4)), (-33, ("rt_rule", 0, 1, 0)), (-2, ("rt_takes", 0, 4, 4)),
    (-22, ("rt_takes", 0, 1, 4)), (-22, ("rt_takes", 1, 1, 0)), (-22, ("rt_table", 4)), (-22, ("rt_table", GREATEST)),
    (-2, ("rt_told", 4)),
)


class ChangesNothing(unittest.TestCase):
    def check(self, before, refusals, states=4):
        as_it_was = seen(before, states, 4)
        for wanted, call in refusals:
            with self.subTest(call=call):
                self.assertEqual(last(before + [call]), [wanted])
                self.assertEqual(seen(before + [call], states, 4), as_it_was)

    def test_each_refusal(self):
        self.check(OPEN, REFUSED)

    def test_each_refusal_where_all_is_full(self):
        full = ((-28, ("rt_treaty", 2)), (-28, ("rt_article", 1, 0, 0)), (-33, ("rt_first", 3)))
        full += ((-33, ("rt_conclude", 1)), (-22, ("rt_treaty", 7)), (-22, ("rt_article", 1, 4, 0)))
        full += ((-28, ("rt_part", 0, 0)), (-28, ("rt_part", 5, 1)), (-22, ("rt_part", 5, 2)), (-2, ("rt_part", 6, 0)))
        full += ((-2, ("rt_again",)), (-2, ("rt_favour", 6, 6)), (-17, ("rt_object", 0, 0, 4)))
        self.check(FULL, full, states=6)

    def test_where_nothing_is_there(self):
        empty = ((-2, ("rt_back",)), (-2, ("rt_again",)), (-33, ("rt_rule", 0, 1, 0)), (-6, ("rt_unfavour", 0, 1)))
        self.check([("rt_start", 4)], empty + ((-2, ("rt_told", 0)), (-2, ("rt_members", 0)), (-22, ("rt_start", 5))))

    def test_what_can_be_done_again_stays(self):
        views = [[], [("rt_again",)], [("rt_again",)] * 3, [("rt_back",)]]
        wanted = [asked(STEPPED + more) for more in views]
        self.assertEqual(steps(STEPPED), (17, 3))
        for refusal, call in REFUSED:
            with self.subTest(call=call):
                self.assertEqual(last(STEPPED + [call]), [refusal])
                self.assertEqual([asked(STEPPED + [call] + more) for more in views], wanted)

    def test_all_taken_back(self):
        line = STEPPED + [("rt_back",)] * 17
        self.assertEqual(ask(line + [("rt_back",), ("rt_back",)])[-2:], [[-2], [-2]])
        self.assertEqual(seen(line + [("rt_back",)], 4, 2), seen(line, 4, 2))
        line = STEPPED + [("rt_again",)] * 3
        self.assertEqual(ask(line + [("rt_again",), ("rt_again",)])[-2:], [[-2], [-2]])
        self.assertEqual(seen(line + [("rt_again",)], 5, 2), seen(line, 5, 2))

    def test_all_of_them_one_behind_another(self):
        calls = [call for wanted, call in REFUSED]
        self.assertEqual(ask(OPEN + calls)[len(OPEN):], [[wanted] for wanted, call in REFUSED])
        self.assertEqual(seen(OPEN + calls, 4, 4), seen(OPEN, 4, 4))

    def test_a_change_would_be_seen(self):
        """Else the tests above would say nothing."""
        as_it_was = seen(OPEN, 4, 4)
        changes = [("rt_treaty", 2), ("rt_article", 1, 0, 0), ("rt_article", 2, 0, 0), ("rt_offer", 2, 2, 0, 0)]
        changes += [("rt_offer", 1, 0, 2, 8), ("rt_offer", 1, 0, 1, 0), ("rt_offer", 1, 3, 2, 0)]
        changes += [("rt_unoffer", 1, 1), ("rt_accede", 0, 3), ("rt_leave", 0, 0), ("rt_leave", 0, 1)]
        changes += [("rt_reserve", 0, 0, 3), ("rt_reserve", 0, 1, 1), ("rt_unreserve", 0, 1, 0)]
        changes += [("rt_unreserve", 0, 2, 1), ("rt_object", 0, 2, 1), ("rt_accept", 0, 0, 1), ("rt_favour", 0, 1)]
        changes += [("rt_favour", 3, 2), ("rt_unfavour", 2, 0), ("rt_part", 0, 0), ("rt_part", 1, 1), ("rt_back",)]
        changes += [("rt_start", 4), ("rt_start", 3)]
        for call in changes:
            with self.subTest(call=call):
                self.assertGreaterEqual(last(OPEN + [call])[0], 0)
                self.assertNotEqual(seen(OPEN + [call], 4, 4), as_it_was)


if __name__ == "__main__":
    unittest.main()
