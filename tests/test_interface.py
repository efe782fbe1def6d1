"""The interface: what answers(calls) is given, and the form of what it gives back."""

import contextlib
import io
import unittest

from tests.helper import flat, probe, signed
from treatyregistry.registry import answers


class Watched(list):
    """A list that tells if it's changed, even if it's changed back."""

    def refuse(self, *ignored):
        raise AssertionError("what was handed in is changed")

    append = extend = insert = pop = remove = clear = sort = reverse = refuse
    __setitem__ = __delitem__ = __iadd__ = __imul__ = refuse


class Form(unittest.TestCase):
    def test_how_many_then_these(self):
        calls = [0, 3, 1, 2, 2, 0, 3, 100, 3, 0, 0, 1, 0, 3, 0, 2, 2, 0]
        self.assertEqual(answers(calls), [1, 0, 1, 0, 1, 0, 1, 0, 1, 0])
        self.assertEqual(answers(calls + [5, 0, 6, 0, 7, 0])[10:], [2, 0, 0, 2, 2, 5, 2, 1, 4])
        calls += [3, 0, 1, 0, 4, 5, 0, 8, 0]
        self.assertEqual(answers(calls)[10:], [1, 0, 2, 3, 7, 1, 3])
        calls += [10, 0, 1, 9, 0, 1, 11, 0, 1, 0, 13, 0, 0, 1, 12, 0, 1, 0]
        self.assertEqual(answers(calls)[17:], [1, 2, 1, 3, 1, 1, 1, 1, 1, 0])

    def test_unoffer_is_call_4(self):
        self.assertEqual(answers([0, 2, 1, 2, 3, 0, 1, 0, 0, 4, 0, 1, 4, 0, 1])[-4:], [1, 0, 1, -6])

    def test_a_refusal_is_its_number_alone(self):
        calls = [0, 2, 5, 0, 6, 0, 7, 0, 8, 0, 1, 2, 7, 0]
        self.assertEqual(answers(calls), [1, 0, 1, -2, 1, -2, 1, -2, 1, -2, 1, 0, 1, -33])

    def test_one_call_alone(self):
        self.assertEqual(answers([0, 4]), [1, 0])
        self.assertEqual(answers([0, 5]), [1, -22])

    def test_plain_whole_numbers_in_a_plain_list(self):
        given = answers(flat(signed(4, (0, 1, 2), 2) + [("rt_treaty", 3), ("rt_offer", 1, 0, 0, 0)] + probe(4, 3)))
        self.assertIs(type(given), list)
        self.assertEqual({type(number) for number in given}, {int})

    def test_a_line_of_1000_calls(self):
        calls = [0, 4, 1, 2, 2, 0, 0, 0] + [3, 0, 1, 4, 13] * 997
        self.assertEqual(answers(calls), [1, 0] * 4 + [1, 1] * 996)


class Apart(unittest.TestCase):
    LINE = flat(signed(3, (0, 1, 2), 2) + [("rt_reserve", 0, 1, 0), ("rt_object", 0, 0, 1), ("rt_treaty", 2)]
                + [("rt_offer", 1, 0, 1, 2), ("rt_start", 7)] + probe(3, 2))

    def test_what_is_handed_in_is_not_changed(self):
        calls = list(self.LINE)
        answers(calls)
        self.assertEqual(calls, self.LINE)

    def test_not_for_a_while_either(self):
        self.assertEqual(answers(Watched(self.LINE)), answers(list(self.LINE)))

    def test_nothing_is_kept_from_one_time_to_the_next(self):
        first = answers(list(self.LINE))
        answers([0, 4, 1, 4, 2, 0, 1, 1])
        self.assertEqual(answers(list(self.LINE)), first)
        self.assertEqual(answers([0, 5]), [1, -22])
        self.assertEqual(answers([0, 2, 1, 2, 4, 0, 0]), [1, 0, 1, 0, 1, -6])

    def test_what_is_given_back_is_the_callers_own(self):
        given = answers([0, 2, 1, 2])
        given.clear()
        self.assertEqual(answers([0, 2, 1, 2]), [1, 0, 1, 0])

    def test_it_prints_nothing(self):
        shown = io.StringIO()
        with contextlib.redirect_stdout(shown), contextlib.redirect_stderr(shown):
            answers(list(self.LINE))
        self.assertEqual(shown.getvalue(), "")


if __name__ == "__main__":
    unittest.main()
