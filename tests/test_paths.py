"""[12] path and shows_path."""

import unittest

from poolshares.divisions import Division
from poolshares.errors import NoShare
from poolshares.paths import path, shows_path
from poolshares.shares import Share, is_calm
from values import all_calmer, next_calmer, not_numbers, not_shares, shares_to

PATHS = [
    ((0, 2, 1), (1, 1, 1), ("calmer", ((0, 1, 2), (1, 1, 1)))),
    ((0, 2, 1), (2, 1, 0), ("calmer", ((0, 1, 2),))),
    ((3, 3), (3, 3), ("calmer", ((3, 3),))),
    ((0, 2), (1, 1), ("calmer", ((0, 2), (1, 1)))),
    ((6, 0), (2, 4), ("calmer", ((0, 6), (1, 5), (2, 4)))),
    # The unit goes to one of two equal least amounts, and comes from one of two equal greatest ones.
    ((0, 0, 4, 4), (1, 1, 3, 3), ("calmer", ((0, 0, 4, 4), (0, 1, 3, 4), (1, 1, 3, 3)))),
    # The first place that has more is not the last one.
    ((0, 3, 3, 6), (1, 2, 4, 5), ("calmer", ((0, 3, 3, 6), (1, 2, 3, 6), (1, 2, 4, 5)))),
    # The first places are equal, and so are some behind the first difference.
    ((1, 1, 2, 5, 9), (1, 2, 2, 5, 8), ("calmer", ((1, 1, 2, 5, 9), (1, 2, 2, 5, 8)))),
    ((0, 0, 6), (2, 2, 2), ("calmer", ((0, 0, 6), (0, 1, 5), (1, 1, 4), (1, 2, 3), (2, 2, 2)))),
    ((1, 1, 1), (0, 2, 1), ("gap", 1)),
    ((0, 4, 5), (1, 2, 6), ("gap", 2)),
    ((1, 2, 6), (0, 4, 5), ("gap", 1)),
    ((0, 2), (1, 2), ("gap", 2)),
    ((0, 0, 0, 0, 0, 0), (30, 30, 30, 30, 30, 30), ("gap", 6)),
    ((1, 2), (0, 2), ("gap", 1)),
    ((0, 3), (0, 2), ("gap", 2)),
    ((0, 0, 2, 9), (0, 1, 0, 9), ("gap", 3)),
    ((0, 1, 0, 9), (0, 0, 2, 9), ("gap", 4)),
    ((0, 1, 5), (0, 2, 3), ("gap", 3)),
    ((0, 0, 0, 1, 9, 9), (0, 0, 0, 0, 30, 30), ("gap", 4)),
]


class TestPath(unittest.TestCase):
    def test_cases(self):
        for one, other, expected in PATHS:
            with self.subTest((one, other)):
                self.assertEqual(path(Share(one), Share(other)), expected)

    def test_kinds(self):
        word, steps = path(Share((0, 6)), Share((3, 3)))
        self.assertEqual((type(word), type(steps)), (str, tuple))
        self.assertEqual([type(step) for step in steps], [tuple] * 4)
        self.assertIs(type(path(Share((0, 6)), Share((3, 4)))), tuple)
        self.assertIs(type(path(Share((0, 6)), Share((3, 4)))[1]), int)

    def test_a_long_path(self):
        word, steps = path(Share((0, 0, 0, 30, 30, 30)), Share((15,) * 6))
        self.assertEqual((word, len(steps), steps[0], steps[-1]), ("calmer", 46, (0, 0, 0, 30, 30, 30), (15,) * 6))
        self.assertEqual(steps[1:4], ((0, 0, 1, 29, 30, 30), (0, 1, 1, 28, 30, 30), (1, 1, 1, 27, 30, 30)))
        self.assertEqual(len(path(Share((0, 30)), Share((15, 15)))[1]), 16)

    def test_every_pair_of_small_shares(self):
        for most, states in ((5, 2), (4, 3), (2, 4)):
            shares = shares_to(most, states)
            for one in shares:
                for other in shares:
                    found = path(one, other)
                    self.assertIs(shows_path(one, other, found), True)
                    if is_calm(one, other):
                        self.check_steps(one, other, found)
                    else:
                        self.check_gap(one, other, found)

    def check_steps(self, one, other, found):
        word, steps = found
        self.assertEqual(word, "calmer")
        self.assertEqual((steps[0], steps[-1]), (tuple(sorted(one.amounts)), tuple(sorted(other.amounts))))
        for before, after in zip(steps, steps[1:]):
            p, q = 0, 0
            while before[p] == steps[-1][p]:
                p += 1
            while q <= p or before[q] <= steps[-1][q]:
                q += 1
            expected = list(before)
            expected.remove(before[p])
            expected.remove(before[q])
            self.assertEqual(after, tuple(sorted(expected + [before[p] + 1, before[q] - 1])))

    def check_gap(self, one, other, found):
        gaps = [k for k in range(len(one) + 1) if one(k) > other(k)]
        self.assertEqual(found, ("gap", gaps[0] if gaps else len(one)))

    def test_by_name(self):
        self.assertEqual(path(other=Share((0, 2)), one=Share((1, 1))), ("gap", 1))

    def test_arguments_stay_as_they_are(self):
        one, other = Share((6, 0)), Share((2, 4))
        self.assertEqual(path(one, other), path(one, other))
        self.assertEqual((one.amounts, other.amounts), ((6, 0), (2, 4)))

    def test_what_is_not_a_share(self):
        share = Share((0, 1))
        for wrong in not_shares():
            for one, other in ((share, wrong), (wrong, share), (wrong, wrong)):
                with self.subTest(repr(wrong)[:60]):
                    with self.assertRaises(NoShare):
                        path(one, other)
                    with self.assertRaises(NoShare):
                        shows_path(one, other, ("gap", 1))

    def test_another_number_of_states(self):
        for one, other in (((0, 0), (0, 0, 0)), ((0, 2, 1), (1, 2)), ((1,) * 6, (1,) * 5)):
            with self.assertRaises(NoShare):
                path(Share(one), Share(other))
            for thing in (("gap", 1), ("gap", 2), None, ("calmer", (one,))):
                with self.assertRaises(NoShare):
                    shows_path(Share(one), Share(other), thing)


class TestShowsPath(unittest.TestCase):
    def shown(self, one, other, thing):
        return shows_path(Share(one), Share(other), thing)

    def test_returned_paths_are_shown(self):
        for one, other, expected in PATHS:
            self.assertIs(self.shown(one, other, expected), True)

    def test_returned_paths_are_not_shown_for_other_shares(self):
        steps = ("calmer", ((0, 1, 2), (1, 1, 1)))
        self.assertIs(self.shown((2, 0, 1), (1, 1, 1), steps), True)
        self.assertIs(self.shown((0, 0, 3), (1, 1, 1), steps), False)
        self.assertIs(self.shown((0, 2, 1), (0, 2, 1), steps), False)
        self.assertIs(self.shown((1, 1, 1), (0, 1, 2), steps), False)

    def test_other_steps_are_shown_too(self):
        # path moves along (1, 2, 3, 6).
        self.assertIs(self.shown((0, 3, 3, 6), (1, 2, 4, 5), ("calmer", ((0, 3, 3, 6), (0, 3, 4, 5), (1, 2, 4, 5)))), True)
        longer = ((0, 0, 6), (0, 1, 5), (0, 2, 4), (0, 3, 3), (1, 2, 3), (2, 2, 2))
        self.assertIs(self.shown((0, 0, 6), (2, 2, 2), ("calmer", longer)), True)

    def test_every_first_step_between_small_shares(self):
        for one in shares_to(4, 3):
            start = tuple(sorted(one.amounts))
            for other in shares_to(4, 3):
                goal = tuple(sorted(other.amounts))
                self.assertIs(shows_path(one, other, ("calmer", (start, goal))), goal in next_calmer(start))

    def test_every_middle_step_between_small_shares(self):
        one, other = Share((0, 0, 6)), Share((1, 2, 3))
        for middle in all_calmer((0, 0, 6)):
            expected = middle in next_calmer((0, 0, 6)) and (1, 2, 3) in next_calmer(middle)
            self.assertIs(shows_path(one, other, ("calmer", ((0, 0, 6), middle, (1, 2, 3)))), expected)
        whole = ((0, 0, 6), (0, 1, 5), (0, 2, 4), (1, 2, 3))
        self.assertIs(shows_path(one, other, ("calmer", whole)), True)

    def test_a_unit_moved_by_less_than_two_is_no_step(self):
        self.assertIs(self.shown((0, 1), (1, 0), ("calmer", ((0, 1), (0, 1)))), False)
        self.assertIs(self.shown((1, 1), (0, 2), ("calmer", ((1, 1), (0, 2)))), False)
        self.assertIs(self.shown((0, 1), (0, 1), ("calmer", ((0, 1),))), True)

    def test_two_units_at_once_are_no_step(self):
        self.assertIs(self.shown((0, 6), (2, 4), ("calmer", ((0, 6), (2, 4)))), False)
        self.assertIs(self.shown((0, 0, 4, 4), (1, 1, 3, 3), ("calmer", ((0, 0, 4, 4), (1, 1, 3, 3)))), False)

    def test_a_unit_that_appears_or_vanishes_is_no_step(self):
        self.assertIs(self.shown((0, 2), (1, 2), ("calmer", ((0, 2), (1, 2)))), False)
        self.assertIs(self.shown((1, 2), (1, 1), ("calmer", ((1, 2), (1, 1)))), False)

    def test_returned_paths_with_parts_changed(self):
        one, other = (0, 0, 6), (2, 2, 2)
        steps = path(Share(one), Share(other))[1]
        self.assertIs(self.shown(one, other, ("calmer", steps)), True)
        for at in range(len(steps)):
            self.assertIs(self.shown(one, other, ("calmer", steps[:at] + steps[at + 1:])), False)
            self.assertIs(self.shown(one, other, ("calmer", steps[:at] + steps[at:at + 1] + steps[at:])), False)
            before, step, after = steps[:at], steps[at], steps[at + 1:]
            changed = [
                list(step), step + (0,), step[:-1], (step,), step[::-1] if at < 4 else (2, 1, 3), tuple(map(str, step)),
                (step[0] + 1, *step[1:]), tuple(map(float, step)), Share(step), None, (), True, "0 0 6", step[0],
                (*step[:-1], step[-1] - 1),
            ]
            for wrong in changed:
                with self.subTest((at, wrong)):
                    self.assertIs(self.shown(one, other, ("calmer", (*before, wrong, *after))), False)
        self.assertIs(self.shown(one, other, ("calmer", steps[::-1])), False)
        self.assertIs(self.shown(one, other, ("calmer", steps + steps)), False)
        self.assertIs(self.shown(one, other, ("calmer", steps * 1300)), False)

    def test_bools_in_steps(self):
        self.assertIs(self.shown((0, 1), (0, 1), ("calmer", ((0, 1),))), True)
        for step in ((False, 1), (0, True), (False, True)):
            self.assertIs(self.shown((0, 1), (0, 1), ("calmer", (step,))), False)
        for steps in (((False, 2), (1, 1)), ((0, 2), (True, 1)), ((0, 2), (1, True)), ((0, 2), (True, True))):
            self.assertIs(self.shown((0, 2), (1, 1), ("calmer", steps)), False)
        self.assertIs(self.shown((0, 4), (2, 2), ("calmer", ((0, 4), (1, 3), (2, 2)))), True)
        self.assertIs(self.shown((0, 4), (2, 2), ("calmer", ((0, 4), (True, 3), (2, 2)))), False)

    def test_lists_in_the_place_of_tuples(self):
        good = ("calmer", ((0, 2), (1, 1)))
        for wrong in (
            list(good), ["calmer", [[0, 2], [1, 1]]], ("calmer", [(0, 2), (1, 1)]), ("calmer", ((0, 2), [1, 1])),
            ("calmer", ([0, 2], (1, 1))), (["calmer"], good[1]), ["calmer", good[1]],
        ):
            with self.subTest(wrong):
                self.assertIs(self.shown((0, 2), (1, 1), wrong), False)
        self.assertIs(self.shown((0, 2), (1, 1), good), True)
        self.assertIs(self.shown((1, 1), (0, 2), ["gap", 1]), False)

    def test_other_words(self):
        steps = ((0, 2), (1, 1))
        for word in ("calm", "Calmer", "calmer ", "gap", "", None, 0, True, ("calmer",), Share((0, 2)), {}):
            with self.subTest(word):
                self.assertIs(self.shown((0, 2), (1, 1), (word, steps)), False)
        for word in ("calmer", "Gap", "gap\n", "", None, 1, False, ["gap"], Share((0, 2))):
            with self.subTest(word):
                self.assertIs(self.shown((1, 1), (0, 2), (word, 1)), False)

    def test_another_number_of_parts(self):
        steps = ((0, 2), (1, 1))
        for wrong in ((), ("calmer",), ("calmer", steps, steps), ("calmer", *steps), (steps, "calmer"), steps):
            self.assertIs(self.shown((0, 2), (1, 1), wrong), False)
        for wrong in ((), ("gap",), ("gap", 1, 1), (1, "gap"), ("gap", (1,)), ("gap", "1")):
            self.assertIs(self.shown((1, 1), (0, 2), wrong), False)

    def test_no_steps(self):
        self.assertIs(self.shown((0, 1), (0, 1), ("calmer", ())), False)

    def test_every_k_between_small_shares(self):
        for most, states in ((5, 2), (4, 3), (2, 4)):
            shares = shares_to(most, states)
            for one in shares:
                for other in shares:
                    for k in range(-1, states + 2):
                        expected = 0 <= k <= states and sum(sorted(one.amounts)[:k]) > sum(sorted(other.amounts)[:k])
                        if k == states and one.total != other.total:
                            expected = True
                        self.assertIs(shows_path(one, other, ("gap", k)), expected)

    def test_gaps(self):
        # Any k counts, not only the smallest one, and the number of states where the totals differ.
        one, other = (2, 2, 2), (0, 1, 5)
        self.assertEqual([k for k in range(-3, 7) if self.shown(one, other, ("gap", k))], [1, 2])
        one, other = (2, 2, 2), (0, 1, 4)
        self.assertEqual([k for k in range(-3, 7) if self.shown(one, other, ("gap", k))], [1, 2, 3])
        one, other = (0, 1, 1), (1, 1, 1)
        self.assertEqual([k for k in range(-3, 7) if self.shown(one, other, ("gap", k))], [3])
        one, other = (0, 1, 2), (1, 1, 1)
        self.assertEqual([k for k in range(-3, 7) if self.shown(one, other, ("gap", k))], [])

    def test_gaps_that_are_not_integers(self):
        for wrong in not_numbers() + [1.0, 10 ** 13 - 1, -1]:
            with self.subTest(repr(wrong)[:60]):
                self.assertIs(self.shown((1, 1), (0, 2), ("gap", wrong)), False)
        self.assertIs(self.shown((1, 1), (0, 2), ("gap", True)), False)
        self.assertIs(self.shown((1, 1), (0, 2), ("gap", 1)), True)

    def test_any_value(self):
        division = Division(Share((0, 2)), Share((1, 1)))
        deep = ((0, 2), (1, 1))
        for _ in range(17):
            deep = (deep,)
        for thing in not_shares() + [Share((0, 2)), division, deep, ("calmer", deep), ["x"] * 8000, (0,) * 8000]:
            with self.subTest(repr(thing)[:60]):
                self.assertIs(self.shown((0, 2), (1, 1), thing), False)
                self.assertIs(self.shown((1, 1), (0, 2), thing), False)

    def test_things_stay_as_they_are(self):
        steps = [[0, 2], [1, 1]]
        thing = ["calmer", steps]
        self.assertIs(self.shown((0, 2), (1, 1), thing), False)
        self.assertEqual(thing, ["calmer", [[0, 2], [1, 1]]])

    def test_by_name(self):
        self.assertIs(shows_path(thing=("gap", 1), other=Share((0, 2)), one=Share((1, 1))), True)


if __name__ == "__main__":
    unittest.main()
