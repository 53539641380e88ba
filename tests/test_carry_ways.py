"""Points [28] and [29]: ways to replace fields, gone there and back."""

import itertools
import unittest

from helper import step_of, thing
from oneheap.steps.ways import Form
from oneheap.views.carry import elder_thing, first_elder_thing, first_thing
from oneheap.views.sources import nearest_source

BILLION = 1000000000


class WayCase(unittest.TestCase):
    def check_there(self, step, rows):
        """Check what is told at first in the younger version of contents of the only kind A."""
        for given, made in rows:
            names = step.elder.kind_of("A").names()
            found = first_thing(step, thing("A", **dict(zip(names, given))))
            self.assertEqual(list(found.contents.values()), made, given)

    def check_back(self, step, rows):
        """Check what is told of made values if the elder thing had the old contents, or was not there."""
        for made, old, given in rows:
            names = step.elder.kind_of("A").names()
            near = thing("A", **dict(zip(step.younger.kind_of("A").names(), made)))
            was = None if old is None else thing("A", **dict(zip(names, old)))
            found, touched = elder_thing(step, near, was, list(near.contents))
            self.assertEqual((list(found.contents.values()), touched), (given, names), (made, old))


class FormsTest(WayCase):
    ONE = step_of("kind A { h: int 0..23; m: int 0..59; }", "replace A (h, m) by (t: int 0..1439) as (60 * h + m);")
    SUM = step_of("kind A { a: int 0..9; b: int -2..5; }", "replace A (a, b) by (s: int -20..40) as (a + b);")
    BACK = step_of("kind A { a: int 0..9; b: int -2..5; }",
                   "replace A (a, b) by (s: int -20..40) as (2 * a + 2 * b) back (3, null);")
    TWO = step_of("kind A { a: int 0..9; b: int 0..9; }",
                  "replace A (a, b) by (s: int 0..20, d: int -9..9) as (a + b + 1, a + -1 * b) back (null, 4);")

    def test_there(self):
        self.check_there(self.ONE, [([2, 3], [123]), ([0, 0], [0]), ([23, 59], [1439])])
        self.check_there(self.ONE, [([None, 3], [None]), ([2, None], [None]), ([None, None], [None])])
        self.check_there(self.TWO, [([5, 2], [8, 3]), ([None, 2], [None, None]), ([5, None], [None, None])])

    def test_constants_and_repeated_fields(self):
        step = step_of("kind A { a: int 0..9; }", "replace A (a) by (s: int 0..99, k: int 7..7) as (a + 3 + 2 * a + -1, 7);")
        self.check_there(step, [([4], [14, 7]), ([None], [None, None])])
        self.check_back(step, [([14, 7], None, [4]), ([15, 7], None, [None]), ([14, 7], [9], [4])])

    def test_back_without_values_that_were_there(self):
        self.check_back(self.ONE, [([123], None, [2, 3]), ([None], None, [None, None]), ([0], None, [0, 0])])
        self.check_back(self.SUM, [([3], None, [0, 3]), ([9], None, [4, 5]), ([-2], None, [0, -2]), ([14], None, [9, 5])])

    def test_the_first_field_counts_first(self):
        self.check_back(self.SUM, [([3], [4, 4], [4, -1]), ([8], [9, 5], [9, -1]), ([1], [9, 5], [3, -2])])

    def test_values_of_which_one_was_none_do_not_count(self):
        self.check_back(self.SUM, [([3], [4, None], [0, 3]), ([3], [None, 0], [0, 3]), ([3], [None, None], [0, 3])])

    def test_a_thing_that_was_of_another_kind_does_not_count(self):
        found, _ = elder_thing(self.SUM, thing("A", s=3), thing("B", a=4, b=4), ["s"])
        self.assertEqual(found, thing("A", a=0, b=3))

    def test_none_comes_back_as_none(self):
        self.check_back(self.SUM, [([None], [4, 4], [None, None])])
        self.check_back(self.BACK, [([None], [4, 4], [None, None]), ([None], None, [None, None])])
        self.check_back(self.TWO, [([None, 3], [4, 4], [None, None]), ([8, None], None, [None, None])])

    def test_nothing_comes_out(self):
        self.check_back(self.SUM, [([15], [1, 1], [None, None]), ([-3], None, [None, None])])
        self.check_back(self.BACK, [([3], [1, 1], [3, None]), ([30], None, [3, None])])
        self.check_back(self.TWO, [([9, 3], None, [None, 4]), ([1, 9], [4, 4], [None, 4]), ([8, 3], [4, 4], [5, 2])])


class NearestSourceTest(unittest.TestCase):
    A = Form([(1, "a")])
    SUM = Form([(1, "a"), (1, "b")])

    def test_one_field(self):
        form = Form([(3, "a"), (1, None)])
        self.assertEqual(nearest_source([form], ["a"], [(0, 9)], [13], None), [4])
        self.assertEqual(nearest_source([form], ["a"], [(0, 9)], [13], [9]), [4])
        self.assertIsNone(nearest_source([form], ["a"], [(0, 9)], [14], None))
        self.assertIsNone(nearest_source([form], ["a"], [(0, 3)], [13], None))
        self.assertIsNone(nearest_source([form], ["a"], [(5, 9)], [13], None))
        self.assertEqual(nearest_source([form], ["a"], [(4, 9)], [13], None), [4])
        self.assertEqual(nearest_source([form], ["a"], [(0, 4)], [13], None), [4])

    def test_one_field_and_two_forms(self):
        forms = [Form([(2, "a")]), Form([(1, "a"), (1, "a"), (5, None)])]
        self.assertEqual(nearest_source(forms, ["a"], [(0, 9)], [6, 11], None), [3])
        self.assertIsNone(nearest_source(forms, ["a"], [(0, 9)], [6, 13], None))

    def test_a_form_that_does_not_depend_on_the_field(self):
        form = Form([(2, "a"), (-2, "a"), (5, None)])
        self.assertEqual(nearest_source([form], ["a"], [(2, 9)], [5], None), [2])
        self.assertEqual(nearest_source([form], ["a"], [(2, 9)], [5], [7]), [7])
        self.assertEqual(nearest_source([form], ["a"], [(2, 9)], [5], [0]), [2])
        self.assertEqual(nearest_source([form], ["a"], [(2, 9)], [5], [10]), [9])
        self.assertIsNone(nearest_source([form], ["a"], [(2, 9)], [6], None))

    def test_two_that_are_as_near(self):
        form = Form([(2, "a"), (3, "b")])
        # The pairs are (0, 4), (3, 2) and (6, 0).
        rows = [([1, 0], [0, 4]), ([2, 0], [3, 2]), ([4, 9], [3, 2]), ([5, 4], [6, 0]), ([9, 4], [6, 0]), ([-5, 0], [0, 4])]
        for old, found in rows:
            self.assertEqual(nearest_source([form], ["a", "b"], [(0, 9), (0, 9)], [12], old), found, old)
        half = Form([(1, "a"), (2, "b")])
        # The pairs are (0, 2), (2, 1) and (4, 0).
        for old, found in [([1, 0], [0, 2]), ([3, 0], [2, 1]), ([2, 9], [2, 1]), ([4, 9], [4, 0])]:
            self.assertEqual(nearest_source([half], ["a", "b"], [(0, 9), (0, 9)], [4], old), found, old)

    def test_at_the_bounds(self):
        bounds = [(2, 6), (-1, 3)]
        for made, old, found in [(5, None, [2, 3]), (9, None, [6, 3]), (1, None, [2, -1]), (8, [2, 2], [5, 3]),
                                 (2, [6, 0], [3, -1]), (0, [3, 0], None), (10, [3, 0], None)]:
            self.assertEqual(nearest_source([self.SUM], ["a", "b"], bounds, [made], old), found, (made, old))

    def test_two_forms_with_one_source(self):
        forms = [self.SUM, Form([(1, "a"), (-1, "b")])]
        bounds = [(0, 9), (0, 9)]
        self.assertEqual(nearest_source(forms, ["a", "b"], bounds, [7, 3], [0, 0]), [5, 2])
        for made in ([8, 3], [12, -12], [2, 4], [30, 0], [9, 11], [-2, 0], [9, -11]):
            self.assertIsNone(nearest_source(forms, ["a", "b"], bounds, made, None), made)
        for made, found in (([9, 9], [9, 0]), ([9, -9], [0, 9]), ([18, 0], [9, 9]), ([0, 0], [0, 0])):
            self.assertEqual(nearest_source(forms, ["a", "b"], bounds, made, None), found)

    def test_two_forms_with_one_source_and_different_bounds(self):
        forms = [self.SUM, Form([(1, "a"), (-1, "b")])]
        for made, found in (([8, 4], [6, 2]), ([8, 0], None), ([8, 8], None), ([12, 2], None), ([7, 3], [5, 2]), ([4, -2], None)):
            self.assertEqual(nearest_source(forms, ["a", "b"], [(5, 9), (1, 3)], made, None), found, made)

    def test_two_forms_of_which_only_one_field_does_not_come_out(self):
        names, bounds = ["a", "b"], [(0, 9), (0, 9)]
        forms = [Form([(2, "a"), (1, "b")]), Form([(1, "b")])]
        self.assertIsNone(nearest_source(forms, names, bounds, [5, 2], None))
        self.assertIsNone(nearest_source(forms, names, bounds, [22, 2], None))
        self.assertIsNone(nearest_source(forms, names, bounds, [12, 10], None))
        self.assertEqual(nearest_source(forms, names, bounds, [6, 2], None), [2, 2])
        forms = [Form([(1, "a")]), Form([(1, "a"), (2, "b")])]
        self.assertIsNone(nearest_source(forms, names, bounds, [2, 5], None))
        self.assertEqual(nearest_source(forms, names, bounds, [2, 6], None), [2, 2])

    def test_a_form_without_fields_beside_another_one(self):
        forms = [Form([(5, None)]), Form([(1, "a")])]
        self.assertEqual(nearest_source(forms, ["a"], [(0, 9)], [5, 3], None), [3])
        self.assertIsNone(nearest_source(forms, ["a"], [(0, 9)], [6, 3], None))

    def test_two_forms_of_one_proportion(self):
        forms = [self.SUM, Form([(2, "a"), (2, "b"), (1, None)])]
        bounds = [(0, 9), (0, 9)]
        self.assertEqual(nearest_source(forms, ["a", "b"], bounds, [5, 11], [2, 2]), [2, 3])
        self.assertIsNone(nearest_source(forms, ["a", "b"], bounds, [5, 10], [2, 2]))

    def test_a_field_that_no_form_counts(self):
        bounds = [(0, 9), (2, 5)]
        self.assertEqual(nearest_source([self.A], ["a", "b"], bounds, [4], None), [4, 2])
        self.assertEqual(nearest_source([self.A], ["a", "b"], bounds, [4], [1, 4]), [4, 4])
        self.assertEqual(nearest_source([Form([(2, "b")])], ["a", "b"], bounds, [8], [3, 5]), [3, 4])
        self.assertEqual(nearest_source([Form([(2, "b")])], ["a", "b"], bounds, [8], [3, None]), [0, 4])
        self.assertIsNone(nearest_source([Form([(2, "b")])], ["a", "b"], bounds, [7], None))
        self.assertIsNone(nearest_source([Form([(2, "b")])], ["a", "b"], bounds, [12], None))

    def test_against_all_pairs(self):
        bounds = [(-2, 3), (-3, 2)]
        pairs = list(itertools.product(range(-2, 4), range(-3, 3)))
        for first, second, total in itertools.product((-3, -2, 1, 4), (-6, -1, 2, 3), range(-9, 10)):
            form = Form([(first, "a"), (second, "b")])
            for old in (None, [0, 0], [3, -3], [-1, 2]):
                found = [list(pair) for pair in pairs if first * pair[0] + second * pair[1] == total]
                if old is not None:
                    found.sort(key=lambda pair: (abs(pair[0] - old[0]), pair[0], abs(pair[1] - old[1]), pair[1]))
                wanted = found[0] if found else None
                self.assertEqual(nearest_source([form], ["a", "b"], bounds, [total], old), wanted, (first, second, total, old))

    def test_wide_bounds(self):
        wide = [(-BILLION, BILLION), (-BILLION, BILLION)]
        names = ["a", "b"]
        self.assertEqual(nearest_source([self.SUM], names, wide, [0], None), [-BILLION, BILLION])
        self.assertEqual(nearest_source([self.SUM], names, wide, [5], [7, 7]), [7, -2])
        self.assertEqual(nearest_source([self.SUM], names, wide, [2 * BILLION - 1], [0, 0]), [BILLION - 1, BILLION])
        form = Form([(999999937, "a"), (-999999929, "b")])
        self.assertEqual(nearest_source([form], names, wide, [8], None), [-999999928, -999999936])
        self.assertEqual(nearest_source([form], names, wide, [8], [0, 0]), [1, 1])
        self.assertEqual(nearest_source([form], names, wide, [0], None), [-999999929, -999999937])
        self.assertEqual(nearest_source([form], names, wide, [0], [600000000, 0]), [999999929, 999999937])
        self.assertEqual(nearest_source([form], names, wide, [0], [400000000, 0]), [0, 0])
        self.assertIsNone(nearest_source([Form([(6, "a"), (10, "b")])], names, wide, [3], None))

    def test_what_is_passed_does_not_change(self):
        bounds, made, old = [(0, 9), (0, 9)], [5], [1, 1]
        nearest_source([self.SUM], ["a", "b"], bounds, made, old)
        self.assertEqual((bounds, made, old), ([(0, 9), (0, 9)], [5], [1, 1]))


class TableTest(WayCase):
    STEP = step_of('kind A { c: one of "x", "y"; n: int 1..2; }',
                   'replace A (c, n) by (u: int 0..9, v: text 3) table ("y", 2) -> (5, "m"), ("x", 1) -> (5, "m"), '
                   '("y", 1) -> (6, "m"), ("x", 2) -> (5, "m");')
    BACK = step_of('kind A { c: one of "x", "y"; }',
                   'replace A (c) by (u: int 0..9) table ("x") -> (1), ("y") -> (2) back ("y");')

    def test_there(self):
        self.check_there(self.STEP, [(["x", 1], [5, "m"]), (["y", 1], [6, "m"]), (["y", 2], [5, "m"])])
        self.check_there(self.STEP, [([None, 1], [None, None]), (["x", None], [None, None])])

    def test_back(self):
        self.check_back(self.STEP, [
            ([5, "m"], None, ["y", 2]),
            ([5, "m"], ["x", 1], ["x", 1]),
            ([5, "m"], ["x", 2], ["x", 2]),
            ([5, "m"], ["y", 1], ["y", 2]),
            ([5, "m"], ["x", None], ["y", 2]),
            ([6, "m"], ["x", 1], ["y", 1]),
            ([None, "m"], ["x", 1], [None, None]),
            ([5, None], None, [None, None]),
            ([7, "m"], ["x", 1], [None, None]),
            ([6, "n"], None, [None, None]),
        ])
        self.check_back(self.BACK, [([3], None, ["y"]), ([1], None, ["x"]), ([None], None, [None]), ([3], ["x"], ["y"])])


class SplitOfTextsTest(WayCase):
    STEP = step_of("kind A { t: text 5; }", 'replace A (t) by (p: text 5 without "-", q: text 6) split "-";')
    BACK = step_of("kind A { t: text 5; }", 'replace A (t) by (p: text 5 without "-", q: text 4) split "-" back ("b");')

    def test_there(self):
        self.check_there(self.STEP, [
            ([None], [None, None]), (["abc"], ["abc", None]), ([""], ["", None]), (["a-b"], ["a", "b"]),
            (["a-b-c"], ["a", "b-c"]), (["-"], ["", ""]), (["--a"], ["", "-a"]), (["a-"], ["a", ""]),
        ])

    def test_back(self):
        self.check_back(self.STEP, [
            ([None, None], None, [None]), ([None, "q"], ["old"], [None]), (["p", None], None, ["p"]),
            (["p", "q-r"], ["old"], ["p-q-r"]), (["", ""], None, ["-"]), (["abc", "de"], ["old"], [None]),
        ])
        self.check_back(self.BACK, [(["abc", "de"], ["old"], ["b"]), (["abc", "d"], None, ["abc-d"]),
                                    ([None, "d"], None, [None])])


class JoinOfTextsTest(WayCase):
    STEP = step_of("kind A { p: text 3 without \"-\"; q: text 2; }", 'replace A (p, q) by (t: text 9) join "-";')
    BACK = step_of("kind A { p: text 3 without \"-\"; q: text 2; }",
                   'replace A (p, q) by (t: text 9) join "-" back ("x", "-");')

    def test_there(self):
        self.check_there(self.STEP, [
            ([None, None], [None]), ([None, "q"], [None]), (["p", None], ["p"]), (["p", "q"], ["p-q"]),
            (["", ""], ["-"]), (["p", "-"], ["p--"]),
        ])

    def test_back(self):
        self.check_back(self.STEP, [
            ([None], ["a", "b"], [None, None]), (["p"], ["a", "b"], ["p", None]), (["p-q"], None, ["p", "q"]),
            (["p--"], None, ["p", "-"]), (["-"], None, ["", ""]), (["abcd"], ["a", "b"], [None, None]),
            (["abc-def"], None, [None, None]), ([""], None, ["", None]),
        ])
        self.check_back(self.BACK, [(["abcd"], ["a", "b"], ["x", "-"]), (["a-def"], None, ["x", "-"]),
                                    ([None], None, [None, None])])


class BackTest(WayCase):
    def test_values_behind_back_are_not_shared(self):
        step = step_of("kind A { a: int 0..9; b: int 0..9; }", "replace A (a, b) by (s: int 0..99) as (a + b) back (1, 2);")
        first_elder_thing(step, thing("A", s=50)).contents["a"] = 8
        self.assertEqual(first_elder_thing(step, thing("A", s=50)), thing("A", a=1, b=2))


if __name__ == "__main__":
    unittest.main()
