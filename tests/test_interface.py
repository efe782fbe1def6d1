"""The interface: what answers(calls) is given, and the form of what it gives back."""

import contextlib
import io
import unittest

from tests.helper import ASKING, ask, flat, probe, signed
from treatyregistry.registry import answers


class Watched(list):
    """A list that tells if it's changed, even if it's changed back."""

    def refuse(self, *ignored):
        raise AssertionError("what was handed in is changed")

    append = extend = insert = pop = remove = clear = sort = reverse = refuse
    __setitem__ = __delitem__ = __iadd__ = __imul__ = refuse


class Form(unittest.TestCase):
    def test_how_many_then_these(self):
        calls = [0, 3, 1, 2, 2, 0, 3, 100, 3, 0, 0, 1, 0, 3, 0, 2, 2, 0]
        self.assertEqual(answers(calls), [1, 0, 1, 0, 1, 0, 1, 0, 1, 0])
        self.assertEqual(answers(calls + [5, 0, 6, 0, 7, 0])[10:], [2, 0, 0, 2, 2, 5, 2, 1, 4])
        calls += [3, 0, 1, 0, 4, 5, 0, 8, 0]
        self.assertEqual(answers(calls)[10:], [1, 0, 2, 3, 7, 1, 3])
        calls += [10, 0, 1, 9, 0, 1, 11, 0, 1, 0, 13, 0, 0, 1, 12, 0, 1, 0]
        self.assertEqual(answers(calls)[17:], [1, 2, 1, 3, 1, 1, 1, 1, 1, 0])

    def test_the_calls_behind_call_13(self):
        calls = [0, 3, 1, 2, 2, 0, 3, 70, 2, 0, 1, 40, 3, 0, 0, 0, 0, 3, 0, 2, 0, 0, 8, 0, 11, 0, 2, 1, 13, 0, 0, 2]
        begin = len(answers(calls))
        calls += [14, 0, 0, 2, 15, 0, 1, 15, 2, 0, 16, 2, 0, 17, 2, 1]
        self.assertEqual(answers(calls)[begin:], [1, 0, 1, 1, 1, 2, 1, 1, 1, 3])
        behind = len(answers(calls))
        asking = [18, 0, 19, 0, 0, 3, 20, 0, 0, 3, 1, 21, 3, 0, 3, 22, 0, 1, 3, 23, 3, 24, 0]
        self.assertEqual(answers(calls + asking)[behind:],
                         [3, 3, 13, 1, 1, 1, 1, 0, 3, 0, 0, 70, 1, 70, 2, 3, 6 * 70 + 6 * 100 - 30,
                          10, 2, 2, 3, 70, 1, 40, 0, 0, 0, 0])
        calls += [27, 25, 25, 27, 26, 27]
        self.assertEqual(answers(calls)[behind:], [6, 1, 4, 1, 1, 13, 0, 1, 12, 1, 11, 6, 1, 3, 2, 1, 11, 2, 1, 1,
                                                   6, 1, 3, 1, 1, 12, 1])

    def test_calls_without_numbers_one_behind_another(self):
        self.assertEqual(answers([0, 2, 25, 26, 27, 25]), [1, 0, 1, -2, 1, -2, 6, 0, 2, 0, 0, 0, 0, 1, -2])

    def test_always_as_many_numbers_as_told(self):
        many = {"rt_joiners": 2, "rt_waits": 2, "rt_first": 2, "rt_members": 3, "rt_rule": 3, "rt_table": 2,
                "rt_told": 10, "rt_state": 6}
        line = signed(4, (0, 1, 2), 2) + [("rt_treaty", 2), ("rt_offer", 1, 0, 0, 0), ("rt_offer", 1, 1, 2, 0)]
        line += ASKING + [("rt_back",), ("rt_again",)]
        found = set()
        for call, told in zip(line, ask(line)):
            self.assertEqual(len(told), 1 if told[0] < 0 else many.get(call[0], 1), call)
            self.assertTrue(all(number >= 0 for number in told[1:]))
            found.add((call[0], len(told)))
        self.assertLessEqual(set(many.items()), found)

    def test_unoffer_is_call_4(self):
        self.assertEqual(answers([0, 2, 1, 2, 3, 0, 1, 0, 0, 4, 0, 1, 4, 0, 1])[-4:], [1, 0, 1, -6])

    def test_a_refusal_is_its_number_alone(self):
        calls = [0, 2, 5, 0, 6, 0, 7, 0, 8, 0, 1, 2, 7, 0]
        self.assertEqual(answers(calls), [1, 0, 1, -2, 1, -2, 1, -2, 1, -2, 1, 0, 1, -33])

    def test_one_call_alone(self):
        self.assertEqual(answers([0, 4]), [1, 0])
        self.assertEqual(answers([0, 5]), [1, -22])

    def test_plain_whole_numbers_in_a_plain_list(self):
        line = signed(4, (0, 1, 2), 2) + [("rt_treaty", 3), ("rt_offer", 1, 0, 0, 0), ("rt_part", 0, 1), ("rt_back",)]
        for calls in (line + probe(4, 3), line + ASKING + [("rt_again",)]):
            given = answers(flat(calls))
            self.assertIs(type(given), list)
            self.assertEqual({type(number) for number in given}, {int})

    def test_a_line_of_1000_calls(self):
        calls = [0, 4, 1, 2, 2, 0, 0, 0] + [3, 0, 1, 4, 13] * 997
        self.assertEqual(answers(calls), [1, 0] * 4 + [1, 1] * 996)
        calls = [0, 4, 17, 0, 0] + [15, 0, 1, 25] * 499
        self.assertEqual(answers(calls), [1, 0, 1, 4] + [1, 1] * 998)


class Apart(unittest.TestCase):
    LINE = flat(signed(3, (0, 1, 2), 2) + [("rt_reserve", 0, 1, 0), ("rt_object", 0, 0, 1), ("rt_treaty", 2)]
                + [("rt_offer", 1, 0, 1, 2), ("rt_start", 7), ("rt_favour", 0, 1), ("rt_part", 1, 1), ("rt_back",)]
                + ASKING[:40] + ASKING[-150:] + [("rt_again",)] + ASKING[-150:] + probe(3, 2) + [("rt_back",)] * 9)

    def test_what_is_handed_in_is_not_changed(self):
        calls = list(self.LINE)
        answers(calls)
        self.assertEqual(calls, self.LINE)

    def test_not_for_a_while_either(self):
        self.assertEqual(answers(Watched(self.LINE)), answers(list(self.LINE)))

    def test_nothing_is_kept_from_one_time_to_the_next(self):
        first = answers(list(self.LINE))
        answers([0, 4, 1, 4, 2, 0, 1, 1])
        self.assertEqual(answers(list(self.LINE)), first)
        self.assertEqual(answers([0, 5]), [1, -22])
        self.assertEqual(answers([0, 2, 1, 2, 4, 0, 0]), [1, 0, 1, 0, 1, -6])

    def test_what_is_given_back_is_the_callers_own(self):
        given = answers([0, 2, 1, 2])
        given.clear()
        self.assertEqual(answers([0, 2, 1, 2]), [1, 0, 1, 0])

    def test_it_prints_nothing(self):
        shown = io.StringIO()
        with contextlib.redirect_stdout(shown), contextlib.redirect_stderr(shown):
            answers(list(self.LINE))
        self.assertEqual(shown.getvalue(), "")


if __name__ == "__main__":
    unittest.main()
