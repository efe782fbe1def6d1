"""Point 6: rt_back, rt_again and rt_state."""

import random
import unittest

from tests.helper import (ASKING, GREATEST, NAMES, ask, asked, concluded, last, looked, probe, probe_offer, signed,
                          steps, treaty)

BACK = ("rt_back",)
AGAIN = ("rt_again",)
STATE = ("rt_state",)

# Each of these is a change, and each kind of change is among them.
STORY = [
    ("rt_treaty", 2), ("rt_article", 0, 0, 30), ("rt_article", 0, 0, 20), ("rt_offer", 0, 0, 0, 0),
    ("rt_offer", 0, 1, 1, 1), ("rt_offer", 0, 2, 0, 0), ("rt_offer", 0, 2, 3, 8), ("rt_unoffer", 0, 2),
    ("rt_offer", 0, 2, 2, 0), ("rt_treaty", 3), ("rt_article", 1, 0, 60), ("rt_article", 1, 1, 10),
    ("rt_offer", 1, 0, 0, 0), ("rt_offer", 1, 1, 0, 0), ("rt_offer", 1, 3, 2, 0), ("rt_conclude", 1),
    ("rt_conclude", 0), ("rt_reserve", 0, 1, 1), ("rt_object", 0, 2, 1), ("rt_favour", 0, 1),
    ("rt_favour", 3, 2), ("rt_part", 1, 1), ("rt_accept", 0, 2, 1), ("rt_accede", 0, 3),
    ("rt_reserve", 0, 1, 0), ("rt_unreserve", 0, 1, 1), ("rt_object", 0, 0, 1), ("rt_unreserve", 0, 1, 0),
    ("rt_unfavour", 0, 1), ("rt_part", 0, 0), ("rt_leave", 1, 0), ("rt_accede", 0, 5), ("rt_treaty", 6),
    ("rt_offer", 2, 5, 5, 31), ("rt_leave", 0, 4), ("rt_favour", 5, 0), ("rt_reserve", 1, 3, 1),
    ("rt_object", 1, 4, 3), ("rt_article", 2, 3, 100), ("rt_favour", 4, 5),
]


def told_up_to(many):
    return [("rt_start", 4)] + STORY[:many]


VIEWS = [looked(told_up_to(many)) for many in range(len(STORY) + 1)]


class TheStory(unittest.TestCase):
    """Else the tests below would say less than they seem to."""

    def test_each_call_of_it_goes_through(self):
        self.assertTrue(all(told[0] >= 0 for told in ask(told_up_to(len(STORY)))))

    def test_each_kind_of_change_is_in_it(self):
        kinds = set(NAMES[1:NAMES.index("rt_part") + 1]) - {"rt_joiners", "rt_waits", "rt_first"}
        self.assertEqual({call[0] for call in STORY}, kinds)

    def test_each_call_of_it_can_be_seen_by_asking(self):
        self.assertEqual([call for call, here, behind in zip(STORY, VIEWS, VIEWS[1:]) if here == behind], [])


class OneBack(unittest.TestCase):
    def test_behind_each_change(self):
        for many in range(1, len(STORY) + 1):
            line = told_up_to(many)
            self.assertEqual(looked(line + [BACK]), VIEWS[many - 1], line[-1])
            self.assertEqual(looked(line + [BACK, AGAIN]), VIEWS[many], line[-1])
            self.assertEqual(looked(line + [BACK, AGAIN, BACK]), VIEWS[many - 1], line[-1])

    def test_what_asking_does_not_tell_is_as_it_was_too(self):
        for many in range(1, len(STORY) + 1):
            line = told_up_to(many)
            calls = [probe(6, 3)] + [probe_offer(4, t, i) for t in (0, 1) for i in range(4)]
            for more in calls:
                wanted = ask(line[:-1] + more)[-len(more):]
                self.assertEqual(ask(line + [BACK] + more)[-len(more):], wanted, line[-1])
                wanted = ask(line + more)[-len(more):]
                self.assertEqual(ask(line + [BACK, AGAIN] + more)[-len(more):], wanted, line[-1])

    def test_how_many_can_still_be(self):
        for many in range(1, len(STORY) + 1):
            left = min(many, 20) - 1
            told = ask(told_up_to(many) + [BACK, STATE, AGAIN, STATE])[-4:]
            self.assertEqual([told[0], told[1][4:], told[2], told[3][4:]], [[left], [left, 1], [0], [left + 1, 0]])

    def test_done_again_it_can_be_made_no_second_time(self):
        line = signed(3, (0, 1)) + [("rt_accede", 0, 2), BACK, AGAIN, ("rt_accede", 0, 2)]
        self.assertEqual(last(line), [-17])
        self.assertEqual(last(line[:-2] + [("rt_accede", 0, 2)]), [3])


class ManyBack(unittest.TestCase):
    def test_none_to_begin_with(self):
        self.assertEqual(ask([("rt_start", 2), BACK, AGAIN, BACK, AGAIN])[1:], [[-2]] * 4)
        self.assertEqual(ask([("rt_start", 2), ("rt_treaty", 2), AGAIN, BACK, BACK, AGAIN, AGAIN])[2:],
                         [[-2], [0], [-2], [0], [-2]])

    def test_up_to_20(self):
        for many in (1, 2, 18, 19, 20, 21, 22, 30, 40):
            line = told_up_to(many)
            kept = min(many, 20)
            told = ask(line + [BACK] * 22)[-22:]
            self.assertEqual(told, [[left] for left in range(kept - 1, -1, -1)] + [[-2]] * (22 - kept))
            self.assertEqual(looked(line + [BACK] * 22), VIEWS[many - kept])
            self.assertEqual(steps(line + [BACK] * 22), (0, kept))
            told = ask(line + [BACK] * 22 + [AGAIN] * 22)[-22:]
            self.assertEqual(told, [[left] for left in range(kept - 1, -1, -1)] + [[-2]] * (22 - kept))
            self.assertEqual(looked(line + [BACK] * 22 + [AGAIN] * 22), VIEWS[many])
            self.assertEqual(steps(line + [BACK] * 22 + [AGAIN] * 22), (kept, 0))

    def test_each_step_on_the_way(self):
        for many in (7, 20, 33, 40):
            line = told_up_to(many)
            for back in range(1, min(many, 20) + 1):
                gone = line + [BACK] * back
                self.assertEqual(looked(gone), VIEWS[many - back])
                self.assertEqual(steps(gone), (min(many, 20) - back, back))
                for again in (1, back // 2, back):
                    self.assertEqual(looked(gone + [AGAIN] * again), VIEWS[many - back + again])

    def test_to_and_fro(self):
        for seed in range(12):
            drawn = random.Random(seed)
            many = drawn.choice((5, 20, 21, 40))
            line = told_up_to(many)
            at = many
            least = max(0, many - 20)
            for step in range(40):
                call = drawn.choice((BACK, BACK, AGAIN) if step < 20 else (BACK, AGAIN, AGAIN))
                line.append(call)
                if call == BACK:
                    wanted = [at - least - 1] if at > least else [-2]
                    at = max(at - 1, least)
                else:
                    wanted = [many - at - 1] if at < many else [-2]
                    at = min(at + 1, many)
                self.assertEqual(last(line), wanted)
                self.assertEqual(looked(line), VIEWS[at])
                self.assertEqual(steps(line), (at - least, many - at))

    def test_the_answers_are_only_those_that_are_told(self):
        self.assertEqual({len(told) for told in ask(told_up_to(40) + [BACK] * 22 + [AGAIN] * 22)}, {1})

    def test_a_line_of_changes_and_steps_back(self):
        """20 stay, however often they are gone through."""
        line = told_up_to(40) + ([BACK] * 20 + [AGAIN] * 20) * 23
        self.assertEqual(steps(line), (20, 0))
        self.assertEqual(last(line + [BACK]), [19])


class AnotherChange(unittest.TestCase):
    def test_it_ends_what_can_be_done_again(self):
        for many in (3, 19, 20, 21, 40):
            for back in (1, 2, 19, 20):
                gone = min(back, many, 20)
                line = told_up_to(many) + [BACK] * gone + [("rt_favour", 2, 3)]
                self.assertEqual(steps(line), (min(many, 20) - gone + 1, 0))
                self.assertEqual(last(line + [AGAIN]), [-2])
                self.assertEqual(looked(line + [BACK]), VIEWS[many - gone])
                self.assertEqual(ask(line + [BACK, AGAIN, AGAIN])[-2:], [[0], [-2]])

    def test_each_kind_of_change_ends_it(self):
        for many in range(1, len(STORY)):
            # The change that comes next in the story is made anew, behind one that was taken back: a favour.
            line = told_up_to(many) + [("rt_favour", 2, 0), BACK]
            self.assertEqual(steps(line), (min(many, 19), 1))
            self.assertEqual(steps(line + [STORY[many]]), (min(many, 19) + 1, 0))
            self.assertEqual(last(line + [STORY[many], AGAIN]), [-2])
            self.assertEqual(looked(line + [STORY[many]]), VIEWS[many + 1])
            self.assertEqual(looked(line + [STORY[many], BACK]), VIEWS[many])

    def test_the_same_change_made_anew_ends_it_too(self):
        line = [("rt_start", 3), ("rt_favour", 0, 1), ("rt_favour", 0, 2), BACK, BACK, ("rt_favour", 0, 1)]
        self.assertEqual(ask(line + [AGAIN, STATE])[-3:], [[1], [-2], [0, 3, 1, 0, 1, 0]])

    def test_what_is_made_behind_a_step_back_can_be_taken_back(self):
        line = told_up_to(30) + [BACK] * 5 + [("rt_favour", 1, 0), ("rt_favour", 2, 0)]
        self.assertEqual(steps(line), (17, 0))
        self.assertEqual(looked(line + [BACK] * 2), VIEWS[25])
        self.assertEqual(looked(line + [BACK] * 3), VIEWS[24])
        self.assertEqual(looked(line + [BACK] * 18), VIEWS[10])
        self.assertEqual(steps(line + [BACK] * 18), (0, 17))
        self.assertEqual(looked(line + [BACK] * 18 + [AGAIN] * 18), looked(line))

    def test_some_back_some_again_and_another_change(self):
        line = told_up_to(25) + [BACK] * 6 + [AGAIN] * 2 + [("rt_favour", 1, 0)]
        self.assertEqual(steps(line), (17, 0))
        self.assertEqual(looked(line + [BACK]), VIEWS[21])
        self.assertEqual(looked(line + [BACK, BACK]), VIEWS[20])
        self.assertEqual(last(line + [BACK, AGAIN, AGAIN]), [-2])

    def test_more_changes_behind_a_step_back(self):
        favours = [("rt_favour", 1, 0), ("rt_unfavour", 1, 0)] * 15
        line = told_up_to(30) + [BACK] * 10
        for many, wanted in ((9, 19), (10, 20), (11, 20), (30, 20)):
            self.assertEqual(steps(line + favours[:many]), (wanted, 0))
        self.assertEqual(looked(line + favours[:10] + [BACK] * 20), VIEWS[10])
        self.assertEqual(looked(line + favours[:12] + [BACK] * 20), VIEWS[12])
        self.assertEqual(looked(line + favours[:12] + [BACK] * 21), VIEWS[12])

    def test_a_call_that_asks_does_not(self):
        line = told_up_to(30) + [BACK] * 4
        for call in ASKING:
            self.assertEqual(steps(line + [call]), (16, 4), call)
        self.assertEqual(asked(line), asked(line + ASKING[:100]))
        self.assertEqual(last(line + ASKING + [AGAIN]), [3])
        self.assertEqual(looked(line + ASKING[-80:] + [AGAIN]), VIEWS[27])

    def test_a_refused_one_does_not(self):
        line = told_up_to(30) + [BACK] * 4
        for call in (("rt_start", 1), ("rt_treaty", 1), ("rt_article", 9, 0, 0), ("rt_offer", 0, 0, 0, 0),
                     ("rt_unoffer", 1, 0), ("rt_conclude", 0), ("rt_accede", 0, 0), ("rt_leave", 1, 2),
                     ("rt_reserve", 0, 1, 4), ("rt_unreserve", 0, 0, 0), ("rt_object", 0, 1, 1),
                     ("rt_accept", 0, 3, 3), ("rt_favour", 3, 2), ("rt_unfavour", 2, 3), ("rt_part", 0, 2)):
            self.assertLess(last(line + [call])[0], 0, call)
            self.assertEqual(steps(line + [call]), (16, 4), call)
            self.assertEqual(looked(line + [call, AGAIN]), VIEWS[27], call)
            self.assertEqual(looked(line + [call, BACK]), VIEWS[25], call)


class Start(unittest.TestCase):
    def test_it_leaves_none_of_either(self):
        for n in (2, 3, 4):
            line = told_up_to(30) + [BACK] * 4 + [("rt_start", n)]
            self.assertEqual(ask(line + [BACK, AGAIN, STATE])[-3:], [[-2], [-2], [0, n, 0, 0, 0, 0]])
            self.assertEqual(looked(line + [BACK, AGAIN]), looked([("rt_start", n)]))
            self.assertEqual(ask(line + [("rt_treaty", 2), BACK, BACK, AGAIN, AGAIN])[-4:], [[0], [-2], [0], [-2]])

    def test_a_refused_one_leaves_both(self):
        for n in (0, 1, 5, GREATEST):
            line = told_up_to(30) + [BACK] * 4 + [("rt_start", n)]
            self.assertEqual(ask(line + [BACK, AGAIN, STATE])[-3:], [[15], [4], [2, 5, 2, 2, 16, 4]])


class TurnsTakenBack(unittest.TestCase):
    # Treaty 0 is concluded, 1 and 2 can be.
    LINE = signed(2, (0, 1)) + treaty(1, [(0, 1)], (0, 1))[:-1] + treaty(2, [(0, 2)], (0, 1))[:-1]

    def turns(self, more):
        return [told[2] for told in ask(self.LINE + more + [("rt_members", t) for t in range(3)])[-3:]]

    def test_another_one_concluded_has_that_turn(self):
        self.assertEqual(self.turns([]), [1, 0, 0])
        self.assertEqual(self.turns([("rt_conclude", 1), ("rt_conclude", 2)]), [1, 2, 3])
        self.assertEqual(self.turns([("rt_conclude", 1), BACK]), [1, 0, 0])
        self.assertEqual(self.turns([("rt_conclude", 1), BACK, ("rt_conclude", 2)]), [1, 0, 2])
        self.assertEqual(self.turns([("rt_conclude", 1), BACK, ("rt_conclude", 2), ("rt_conclude", 1)]), [1, 3, 2])
        self.assertEqual(self.turns([("rt_conclude", 1), BACK, AGAIN, ("rt_conclude", 2)]), [1, 2, 3])
        self.assertEqual(self.turns([("rt_conclude", 1), BACK, ("rt_conclude", 1)]), [1, 2, 0])

    def test_what_goes_ahead_changes_with_it(self):
        both = [("rt_conclude", 1), ("rt_conclude", 2)]
        rule = [("rt_rule", 0, 1, 0)]
        self.assertEqual(last(self.LINE + both + rule), [2, 0, 2])
        self.assertEqual(last(self.LINE + both + [BACK] + rule), [1, 0, 1])
        other_way = both + [BACK, BACK, ("rt_conclude", 2), ("rt_conclude", 1)]
        self.assertEqual(last(self.LINE + other_way + rule), [1, 0, 1])
        self.assertEqual(last(self.LINE + both + [BACK, BACK] + rule), [0, 0, 50])
        self.assertEqual(last(self.LINE + both + [BACK, BACK, AGAIN, AGAIN] + rule), [2, 0, 2])


class State(unittest.TestCase):
    def test_at_first(self):
        for n in (2, 3, 4):
            self.assertEqual(last([("rt_start", n), STATE]), [0, n, 0, 0, 0, 0])

    def test_how_many_of_each(self):
        line = [("rt_start", 3), ("rt_part", 0, 1), ("rt_favour", 0, 1), ("rt_favour", 3, 1), ("rt_treaty", 2)]
        self.assertEqual(last(line + [STATE]), [1, 4, 2, 0, 4, 0])
        line += [("rt_article", 0, 0, 0), ("rt_offer", 0, 0, 0, 0), ("rt_offer", 0, 3, 0, 0), ("rt_treaty", 4)]
        self.assertEqual(last(line + [STATE]), [2, 4, 2, 0, 8, 0])
        line += [("rt_conclude", 0), ("rt_unfavour", 0, 1)]
        self.assertEqual(last(line + [STATE]), [2, 4, 1, 1, 10, 0])
        line += [BACK, BACK, BACK]
        self.assertEqual(last(line + [STATE]), [1, 4, 2, 0, 7, 3])

    def test_a_treaty_that_all_left_was_concluded(self):
        line = signed(2, (0, 1)) + [("rt_leave", 0, 0), ("rt_leave", 0, 1)]
        self.assertEqual(last(line + [STATE]), [1, 2, 0, 1, 7, 0])

    def test_the_most_there_can_be(self):
        line = [("rt_start", 4), ("rt_part", 0, 0), ("rt_part", 0, 0)]
        line += [("rt_favour", i, j) for i in range(6) for j in range(6) if i != j]
        for t in range(4):
            line += concluded((0, 1), t=t)
        self.assertEqual(last(line + [STATE]), [4, 6, 30, 4, 20, 0])
        self.assertEqual(last(line + [BACK] * 20 + [STATE]), [0, 6, 30, 0, 0, 20])

    def test_it_changes_nothing(self):
        line = told_up_to(30) + [BACK] * 4
        self.assertEqual(ask(line + [STATE] * 3)[-3:], [[2, 5, 2, 2, 16, 4]] * 3)


if __name__ == "__main__":
    unittest.main()
