"""Points [25] to [27] and [30]: things carried between neighbours."""

import unittest

from helper import step_of, thing
from oneheap.views.carry import elder_thing, first_elder_thing, first_thing, young_thing

BOOK = "kind Book { a: int 0..9; b: text 5; c: one of \"x\", \"y\"; r: ref Book; l: list Book; }"


class CarryCase(unittest.TestCase):
    def check_young(self, step, near, old, touched, far, names):
        self.assertEqual(young_thing(step, near, old, touched), (far, names))

    def check_elder(self, step, near, old, touched, far, names):
        self.assertEqual(elder_thing(step, near, old, touched), (far, names))


class KeptFieldsTest(CarryCase):
    STEP = step_of(BOOK, "rename Book to Tome; rename Book.a to z;")
    ELDER = thing("Book", a=1, b="one", c="x", r=3, l=[4, 5])
    YOUNGER = thing("Tome", z=1, b="one", c="x", r=3, l=[4, 5])
    OTHER = thing("Tome", z=7, b="old", c="y", r=None, l=[])

    def test_at_first_all_fields_count_as_set_in_the_order_of_the_far_schema(self):
        self.check_young(self.STEP, self.ELDER, None, [], self.YOUNGER, ["z", "b", "c", "r", "l"])
        self.check_elder(self.STEP, self.YOUNGER, None, [], self.ELDER, ["a", "b", "c", "r", "l"])

    def test_contents_stand_in_the_order_of_the_schema(self):
        carried, _ = young_thing(self.STEP, self.ELDER, None, [])
        self.assertEqual(list(carried.contents), ["z", "b", "c", "r", "l"])

    def test_only_fields_of_near_fields_that_count_as_set_are_told(self):
        far = thing("Tome", z=1, b="old", c="y", r=None, l=[4, 5])
        self.check_young(self.STEP, self.ELDER, self.OTHER, ["l", "a"], far, ["z", "l"])
        self.check_young(self.STEP, self.ELDER, self.OTHER, [], self.OTHER, [])
        far = thing("Book", a=2, b="one", c="x", r=3, l=[])
        near = thing("Tome", z=2, b="new", c="y", r=9, l=[])
        self.check_elder(self.STEP, near, self.ELDER, ["l", "z"], far, ["a", "l"])

    def test_a_far_thing_of_another_kind_was_not_of_the_kind(self):
        self.check_young(self.STEP, self.ELDER, thing("Other", q=1), ["a"], self.YOUNGER, ["z", "b", "c", "r", "l"])

    def test_fields_of_the_near_version_with_names_of_the_far_one_do_not_count(self):
        step = step_of("kind A { a: int 0..9; b: int 0..9; }", "rename A.a to b; rename A.b to a;")
        self.check_young(step, thing("A", a=1, b=2), thing("A", b=5, a=6), ["a"], thing("A", b=1, a=6), ["b"])
        self.check_elder(step, thing("A", b=1, a=2), thing("A", a=5, b=6), ["a"], thing("A", a=5, b=2), ["b"])

    def test_nothing_is_shared_and_nothing_is_changed(self):
        near = thing("Book", a=1, b="one", c="x", r=3, l=[4, 5])
        old = thing("Tome", z=7, b="old", c="y", r=None, l=[8])
        touched = ["l"]
        carried, names = young_thing(self.STEP, near, old, touched)
        carried.contents["l"].append(9)
        names.append("q")
        self.assertEqual(near, self.ELDER)
        self.assertEqual(old, thing("Tome", z=7, b="old", c="y", r=None, l=[8]))
        self.assertEqual(touched, ["l"])
        carried, _ = young_thing(self.STEP, near, old, [])
        carried.contents["l"].append(9)
        self.assertEqual(old.contents["l"], [8])

    def test_a_kind_without_fields(self):
        step = step_of("kind A { }", "rename A to B;")
        self.check_young(step, thing("A"), None, [], thing("B"), [])
        self.check_elder(step, thing("B"), thing("A"), [], thing("A"), [])


class ChangedFieldsTest(CarryCase):
    STEP = step_of(
        "kind A { a: int 0..9; b: text 5; c: one of \"x\", \"y\"; } ",
        'change A.a: int 3..20 else 5 back 2; change A.b: text 3 without "-"; change A.c: text 1 back "y";',
    )

    def test_values_that_the_new_shape_holds(self):
        near = thing("A", a=3, b="abc", c="x")
        self.check_young(self.STEP, near, None, [], near, ["a", "b", "c"])

    def test_values_that_the_new_shape_does_not_hold(self):
        self.check_young(self.STEP, thing("A", a=2, b="a-b", c="x"), None, [], thing("A", a=5, b=None, c="x"),
                         ["a", "b", "c"])
        self.check_young(self.STEP, thing("A", a=2, b="abcd", c="y"), thing("A", a=4, b="u", c=None), ["a", "b"],
                         thing("A", a=5, b=None, c=None), ["a", "b"])

    def test_none_is_held(self):
        near = thing("A", a=None, b=None, c=None)
        self.check_young(self.STEP, near, None, [], near, ["a", "b", "c"])
        self.check_elder(self.STEP, near, None, [], near, ["a", "b", "c"])

    def test_back(self):
        self.check_elder(self.STEP, thing("A", a=9, b="abc", c="x"), None, [], thing("A", a=9, b="abc", c="x"),
                         ["a", "b", "c"])
        self.check_elder(self.STEP, thing("A", a=10, b="", c="z"), None, [], thing("A", a=2, b="", c="y"),
                         ["a", "b", "c"])

    def test_back_without_a_value(self):
        step = step_of("kind A { a: int 0..9; }", "change A.a: int 0..99;")
        self.check_elder(step, thing("A", a=10), thing("A", a=4), ["a"], thing("A", a=None), ["a"])

    def test_references_and_lists_keep_their_contents(self):
        step = step_of("kind A { r: ref A; l: list A; } kind B { }", "change A.r: ref B refuses; change A.l: list A or B;")
        near = thing("A", r=7, l=[3, 2])
        self.check_young(step, near, None, [], near, ["r", "l"])
        self.check_elder(step, near, thing("A", r=1, l=[]), ["l"], thing("A", r=1, l=[3, 2]), ["l"])


class NewAndGoneFieldsTest(CarryCase):
    STEP = step_of(
        'kind A { a: int 0..9; b: text 5; r: ref A; l: list A; k: int 0..9; }',
        'new A.u: int 0..9 = 4; new A.v: text 3; new A.w: ref A; new A.x: list A; '
        'gone A.a = 7; gone A.b; gone A.r; gone A.l;',
    )
    ELDER = thing("A", a=1, b="one", r=2, l=[3], k=5)

    def test_new_fields(self):
        far = thing("A", k=5, u=4, v=None, w=None, x=[])
        self.check_young(self.STEP, self.ELDER, None, [], far, ["k", "u", "v", "w", "x"])

    def test_new_fields_keep_what_they_had(self):
        old = thing("A", k=1, u=8, v="q", w=1, x=[2])
        far = thing("A", k=5, u=8, v="q", w=1, x=[2])
        self.check_young(self.STEP, self.ELDER, old, ["a", "b", "r", "l", "k"], far, ["k"])
        self.check_young(self.STEP, self.ELDER, old, ["a", "b"], old, [])

    def test_gone_fields(self):
        near = thing("A", k=5, u=8, v="q", w=1, x=[2])
        self.check_elder(self.STEP, near, None, [], thing("A", a=7, b=None, r=None, l=[], k=5), ["a", "b", "r", "l", "k"])
        self.check_elder(self.STEP, near, self.ELDER, ["u", "v", "w", "x"], self.ELDER, [])

    def test_the_empty_lists_are_new_ones(self):
        one, _ = young_thing(self.STEP, self.ELDER, None, [])
        one.contents["x"].append(1)
        self.assertEqual(first_thing(self.STEP, self.ELDER).contents["x"], [])

    def test_a_gone_field_and_a_new_one_of_its_name(self):
        step = step_of("kind A { a: int 0..9; }", "gone A.a = 1; new A.a: text 3 = \"n\";")
        self.check_young(step, thing("A", a=5), thing("A", a="old"), ["a"], thing("A", a="old"), [])
        self.check_young(step, thing("A", a=5), None, ["a"], thing("A", a="n"), ["a"])
        self.check_elder(step, thing("A", a="m"), None, ["a"], thing("A", a=1), ["a"])


class MadeFieldsTest(CarryCase):
    STEP = step_of("kind A { h: int 0..23; q: int 0..9; m: int 0..59; }",
                   "replace A (h, m) by (t: int 0..1439) as (60 * h + m);")

    def test_made(self):
        self.check_young(self.STEP, thing("A", h=2, q=4, m=3), None, [], thing("A", t=123, q=4), ["t", "q"])
        for name in ("h", "m"):
            self.check_young(self.STEP, thing("A", h=2, q=4, m=3), thing("A", t=0, q=0), [name], thing("A", t=123, q=0),
                             ["t"])
        self.check_young(self.STEP, thing("A", h=2, q=4, m=3), thing("A", t=0, q=0), ["q"], thing("A", t=0, q=4), ["q"])

    def test_the_group(self):
        self.check_elder(self.STEP, thing("A", t=123, q=4), None, [], thing("A", h=2, q=4, m=3), ["h", "q", "m"])
        old = thing("A", h=0, q=0, m=0)
        self.check_elder(self.STEP, thing("A", t=123, q=4), old, ["t"], thing("A", h=2, q=0, m=3), ["h", "m"])
        self.check_elder(self.STEP, thing("A", t=123, q=4), old, ["q"], thing("A", h=0, q=4, m=0), ["q"])


class NoKinTest(CarryCase):
    def test_gone_and_new_kinds(self):
        step = step_of("kind A { a: int 0..1; } kind B { }", "gone kind A; new kind C { c: int 0..1; };")
        self.assertIsNone(young_thing(step, thing("A", a=1), None, ["a"]))
        self.assertIsNone(young_thing(step, thing("A", a=1), thing("C", c=1), ["a"]))
        self.assertIsNone(elder_thing(step, thing("C", c=1), thing("A", a=1), ["c"]))
        self.assertIsNone(first_thing(step, thing("A", a=1)))
        self.assertIsNone(first_elder_thing(step, thing("C", c=1)))

    def test_a_new_kind_with_the_name_of_a_gone_one(self):
        step = step_of("kind A { a: int 0..1; } kind B { }", "gone kind A; new kind A { a: int 0..1; };")
        self.assertIsNone(first_thing(step, thing("A", a=1)))
        self.assertIsNone(first_elder_thing(step, thing("A", a=1)))


SPLIT = 'kind A { n: int 0..9; c: one of "x", "y", "z"; l: list A; }'


class SplitTest(CarryCase):
    STEP = step_of(SPLIT, 'split A by c into "y" as Y, "x" as X, "z" as Z;')
    WITH_ELSE = step_of(SPLIT, 'split A by c into "y" as Y, "x" as X, "z" as Z else Z;')

    def test_the_text_tells_the_kind(self):
        for text, kind in (("x", "X"), ("y", "Y"), ("z", "Z")):
            near = thing("A", n=1, c=text, l=[2])
            self.check_young(self.STEP, near, None, [], thing(kind, n=1, l=[2]), ["n", "l"])

    def test_no_text_tells_the_first_branch_or_the_kind_behind_else(self):
        near = thing("A", n=1, c=None, l=[])
        self.check_young(self.STEP, near, None, [], thing("Y", n=1, l=[]), ["n", "l"])
        self.check_young(self.WITH_ELSE, near, None, [], thing("Z", n=1, l=[]), ["n", "l"])

    def test_a_far_thing_of_the_kind(self):
        old = thing("X", n=5, l=[6])
        self.check_young(self.STEP, thing("A", n=1, c="x", l=[2]), old, ["c"], old, [])
        self.check_young(self.STEP, thing("A", n=1, c="x", l=[2]), old, ["c", "n"], thing("X", n=1, l=[6]), ["n"])

    def test_a_far_thing_of_another_kind(self):
        self.check_young(self.STEP, thing("A", n=1, c="y", l=[2]), thing("X", n=5, l=[6]), ["c"],
                         thing("Y", n=1, l=[2]), ["n", "l"])

    def test_the_telling_field_is_told_at_first(self):
        self.check_elder(self.STEP, thing("X", n=1, l=[2]), None, [], thing("A", n=1, c="x", l=[2]), ["n", "c", "l"])
        self.check_elder(self.WITH_ELSE, thing("Z", n=1, l=[]), None, [], thing("A", n=1, c="z", l=[]), ["n", "c", "l"])

    def test_the_telling_field_stays_if_it_tells_the_kind(self):
        self.check_elder(self.STEP, thing("X", n=1, l=[2]), thing("A", n=3, c="x", l=[]), ["n"],
                         thing("A", n=1, c="x", l=[]), ["n"])
        self.check_elder(self.STEP, thing("Y", n=1, l=[2]), thing("A", n=3, c=None, l=[]), ["n"],
                         thing("A", n=1, c=None, l=[]), ["n"])
        self.check_elder(self.WITH_ELSE, thing("Z", n=1, l=[2]), thing("A", n=3, c=None, l=[]), [],
                         thing("A", n=3, c=None, l=[]), [])

    def test_the_telling_field_is_told_if_it_tells_another_kind(self):
        self.check_elder(self.STEP, thing("X", n=1, l=[2]), thing("A", n=3, c="y", l=[]), [],
                         thing("A", n=3, c="x", l=[]), ["c"])
        self.check_elder(self.STEP, thing("X", n=1, l=[2]), thing("A", n=3, c=None, l=[]), ["l"],
                         thing("A", n=3, c="x", l=[2]), ["c", "l"])
        self.check_elder(self.WITH_ELSE, thing("Y", n=1, l=[2]), thing("A", n=3, c=None, l=[]), [],
                         thing("A", n=3, c="y", l=[]), ["c"])

    def test_one_branch(self):
        step = step_of('kind A { n: int 0..9; c: one of "x"; }', 'split A by c into "x" as B;')
        self.check_young(step, thing("A", n=1, c=None), None, [], thing("B", n=1), ["n"])
        self.check_elder(step, thing("B", n=1), thing("A", n=2, c=None), ["n"], thing("A", n=1, c=None), ["n"])


JOIN = "kind A { n: int 0..9; a: int 0..9; l: list A; } kind B { b: text 3; n: int 0..9; m: list B; }"


class JoinTest(CarryCase):
    STEP = step_of(JOIN, 'join "b" as B, "a" as A into C by w;')
    WITH_ELSE = step_of(JOIN, 'join "b" as B, "a" as A into C by w else A;')
    A = thing("A", n=1, a=2, l=[3])
    B = thing("B", b="q", n=4, m=[5])

    def test_at_first(self):
        names = ["w", "b", "n", "m", "a", "l"]
        self.check_young(self.STEP, self.A, None, [], thing("C", w="a", b=None, n=1, m=[], a=2, l=[3]), names)
        self.check_young(self.STEP, self.B, None, [], thing("C", w="b", b="q", n=4, m=[5], a=None, l=[]), names)

    def test_fields_that_the_near_kind_has_not_stay(self):
        old = thing("C", w="a", b="u", n=0, m=[7], a=0, l=[])
        self.check_young(self.STEP, self.A, old, ["n", "l"], thing("C", w="a", b="u", n=1, m=[7], a=0, l=[3]),
                         ["n", "l"])

    def test_the_telling_field_stays_if_it_tells_the_kind(self):
        old = thing("C", w=None, b="u", n=0, m=[7], a=0, l=[])
        self.check_young(self.STEP, self.B, old, [], old, [])
        self.check_young(self.WITH_ELSE, self.A, old, [], old, [])

    def test_the_telling_field_is_told_if_it_tells_another_kind(self):
        old = thing("C", w=None, b="u", n=0, m=[7], a=0, l=[])
        self.check_young(self.STEP, self.A, old, [], thing("C", w="a", b="u", n=0, m=[7], a=0, l=[]), ["w"])
        self.check_young(self.WITH_ELSE, self.B, old, ["b"], thing("C", w="b", b="q", n=0, m=[7], a=0, l=[]), ["w", "b"])
        old.contents["w"] = "a"
        self.check_young(self.STEP, self.B, old, [], thing("C", w="b", b="u", n=0, m=[7], a=0, l=[]), ["w"])

    def test_the_text_tells_the_elder_kind(self):
        near = thing("C", w="a", b="q", n=1, m=[5], a=2, l=[3])
        self.check_elder(self.STEP, near, None, [], self.A, ["n", "a", "l"])
        near.contents["w"] = "b"
        self.check_elder(self.STEP, near, None, [], thing("B", b="q", n=1, m=[5]), ["b", "n", "m"])
        near.contents["w"] = None
        self.check_elder(self.STEP, near, None, [], thing("B", b="q", n=1, m=[5]), ["b", "n", "m"])
        self.check_elder(self.WITH_ELSE, near, None, [], self.A, ["n", "a", "l"])

    def test_elder_things_that_were_there(self):
        near = thing("C", w="a", b="q", n=1, m=[5], a=2, l=[3])
        old = thing("A", n=8, a=9, l=[])
        self.check_elder(self.STEP, near, old, ["w", "b", "m"], old, [])
        self.check_elder(self.STEP, near, old, ["a"], thing("A", n=8, a=2, l=[]), ["a"])
        self.check_elder(self.STEP, near, self.B, ["w"], self.A, ["n", "a", "l"])


class FirstTest(unittest.TestCase):
    def test_first(self):
        step = step_of(BOOK, "rename Book.a to z; new Book.n: int 0..9 = 3; gone Book.b = \"g\";")
        elder = thing("Book", a=1, b="one", c="x", r=3, l=[4])
        younger = thing("Book", z=1, c="x", r=3, l=[4], n=3)
        self.assertEqual(first_thing(step, elder), younger)
        self.assertEqual(first_elder_thing(step, younger), thing("Book", a=1, b="g", c="x", r=3, l=[4]))

    def test_late_lines_change_nothing(self):
        step = step_of(BOOK, "new not null Book.a; deletes Book.r takes; new key Book (a);")
        elder = thing("Book", a=None, b="one", c="x", r=3, l=[4])
        self.assertEqual(first_thing(step, elder), elder)
        self.assertEqual(first_elder_thing(step, elder), elder)


if __name__ == "__main__":
    unittest.main()
