"""Points [59] to [65]: changes that spread, and versions that come and go."""

import unittest

from helper import line_of, step_of, thing
from oneheap.heap.heap import Heap
from oneheap.heap.line import Line, Version
from oneheap.heap.spreading import follow, spread, with_version, without_version
from oneheap.objects.source import PictureSource
from oneheap.objects.thing import picture_copy
from oneheap.objects.touching import Touch, touched
from oneheap.objects.view import View


class FollowTest(unittest.TestCase):
    STEP = step_of(
        'kind A { n: int 0..9; m: int 0..9; c: one of "x", "y"; } kind B { n: int 0..9; l: list B; } kind C { } kind D { } '
        'kind E { k: one of "p", "q"; }',
        'rename A.n to z; new A.w: int 0..9 = 5; gone A.c = "y"; gone kind B; new kind N { a: int 0..9; }; '
        'join "c" as C, "d" as D into J by j; split E by k into "p" as P, "q" as Q;',
    )

    def check(self, to_young, far, near, touches, wanted, wanted_touches):
        far_before, near_before = picture_copy(far), picture_copy(near)
        told = [Touch(*touch) for touch in touches]
        picture, found = follow(self.STEP, to_young, far, near, told)
        self.assertEqual(picture, wanted)
        self.assertEqual([(one.number, one.made, one.gone, one.names) for one in found], wanted_touches)
        self.assertEqual((far, near, told), (far_before, near_before, [Touch(*touch) for touch in touches]))
        for number, one in picture.items():
            self.assertFalse(one is far.get(number) or one is near.get(number))

    def test_nothing(self):
        far = {1: thing("A", z=1, m=2, w=3)}
        self.check(True, far, {}, [], far, [])

    def test_changed_fields(self):
        near = {1: thing("A", n=7, m=8, c="x"), 2: thing("A", n=9, m=9, c="y")}
        far = {1: thing("A", z=1, m=2, w=3), 2: thing("A", z=4, m=5, w=6)}
        self.check(True, far, near, [(1, False, False, ["c", "n"])], {1: thing("A", z=7, m=2, w=3), 2: far[2]},
                   [(1, False, False, ["z"])])
        self.check(True, far, near, [(1, False, False, ["m", "n"]), (2, False, False, ["m"])],
                   {1: thing("A", z=7, m=8, w=3), 2: thing("A", z=4, m=9, w=6)},
                   [(1, False, False, ["z", "m"]), (2, False, False, ["m"])])
        self.check(False, near, far, [(1, False, False, ["z", "w"])], {1: thing("A", n=1, m=8, c="x"), 2: near[2]},
                   [(1, False, False, ["n"])])

    def test_objects_without_a_far_touch(self):
        near = {1: thing("A", n=7, m=8, c="x")}
        far = {1: thing("A", z=1, m=2, w=3)}
        self.check(True, far, near, [(1, False, False, ["c"])], far, [])
        self.check(False, near, far, [(1, False, False, ["w"])], near, [])
        self.check(True, far, near, [(1, False, False, [])], far, [])

    def test_gone_objects(self):
        far = {1: thing("A", z=1, m=2, w=3), 4: thing("A", z=1, m=2, w=3)}
        self.check(True, far, {}, [(1, False, True, []), (3, False, True, [])], {4: far[4]},
                   [(1, False, True, []), (3, False, True, [])])
        near = {1: thing("B", n=1, l=[])}
        self.check(False, near, {}, [(1, False, True, [])], {}, [(1, False, True, [])])

    def test_objects_without_a_far_kind(self):
        near = {1: thing("B", n=1, l=[]), 2: thing("B", n=1, l=[])}
        far = {1: thing("A", z=1, m=2, w=3)}
        self.check(True, far, near, [(1, False, False, ["n"]), (2, True, False, ["n", "l"])], {}, [(1, False, True, [])])
        near = {1: thing("N", a=1), 2: thing("N", a=1)}
        far = {1: thing("C")}
        self.check(False, far, near, [(1, False, False, ["a"]), (2, True, False, ["a"])], {}, [(1, False, True, [])])

    def test_made_objects(self):
        near = {1: thing("A", n=7, m=8, c="x"), 2: thing("C")}
        self.check(True, {}, near, [(1, True, False, ["n", "m", "c"]), (2, True, False, [])],
                   {1: thing("A", z=7, m=8, w=5), 2: thing("J", j="c")},
                   [(1, True, False, ["z", "m", "w"]), (2, True, False, ["j"])])
        near = {1: thing("A", z=7, m=8, w=1), 2: thing("J", j="d")}
        self.check(False, {}, near, [(1, True, False, ["z", "m", "w"]), (2, True, False, ["j"])],
                   {1: thing("A", n=7, m=8, c="y"), 2: thing("D")}, [(1, True, False, ["n", "m", "c"]), (2, True, False, [])])

    def test_objects_that_the_far_picture_had_not_are_made_there(self):
        near = {1: thing("A", n=7, m=8, c="x")}
        self.check(True, {}, near, [(1, False, False, ["n"])], {1: thing("A", z=7, m=8, w=5)},
                   [(1, True, False, ["z", "m", "w"])])

    def test_objects_that_the_far_picture_had_are_not_made_there(self):
        near = {1: thing("A", n=7, m=8, c="x")}
        far = {1: thing("A", z=1, m=2, w=3)}
        self.check(True, far, near, [(1, True, False, ["n", "m", "c"])], {1: thing("A", z=7, m=8, w=3)},
                   [(1, False, False, ["z", "m"])])

    def test_objects_whose_kind_changes(self):
        near = {2: thing("J", j="d")}
        far = {2: thing("C")}
        # Neither kind has a field, so the touch has no names.
        self.check(False, far, near, [(2, False, False, ["j"])], {2: thing("D")}, [(2, False, False, [])])
        self.check(False, {2: thing("D")}, near, [(2, False, False, ["j"])], {2: thing("D")}, [])
        near = {1: thing("A", n=7, m=8, c="x")}
        far = {1: thing("N", a=1)}
        self.check(True, far, near, [(1, False, False, ["n"])], {1: thing("A", z=7, m=8, w=5)},
                   [(1, False, False, ["z", "m", "w"])])

    def test_a_touch_of_a_telling_field(self):
        near = {1: thing("E", k="q"), 2: thing("E", k=None)}
        far = {1: thing("P"), 2: thing("P")}
        self.check(True, far, near, [(1, False, False, ["k"]), (2, False, False, ["k"])], {1: thing("Q"), 2: thing("P")},
                   [(1, False, False, [])])

    def test_touches_are_taken_in_ascending_order(self):
        near = {1: thing("A", n=7, m=8, c="x"), 2: thing("A", n=7, m=8, c="x")}
        _, found = follow(self.STEP, True, {}, near, [Touch(2, True, False, ["n"]), Touch(1, True, False, ["n"])])
        self.assertEqual([one.number for one in found], [1, 2])


class SpreadCase(unittest.TestCase):
    def changed(self, line, heap, number, *deeds):
        """Return what comes of a heap by deeds in a version, and check that nothing that is passed changes."""
        before = heap.copied()
        view = View(line.schema_of(number), PictureSource(heap.picture_of(number)))
        for deed in deeds:
            view.do(deed)
        picture, touches = view.picture(heap.picture_of(number)), touched(view)
        picture_before, touches_before = picture_copy(picture), touched(view)
        found = spread(line, heap, number, picture, touches)
        self.assertEqual((heap, picture, touches), (before, picture_before, touches_before))
        for one in picture:
            self.assertIsNot(found.picture_of(number).get(one), picture[one])
        self.assertEqual(list(found.pictures), line.version_numbers())
        return found


class SpreadTest(SpreadCase):
    LINE = line_of(
        "kind A { n: int 0..9; l: list A or B; r: ref A or B; } kind B { m: int 0..9; }",
        "rename A.n to o; gone kind B;",
        "rename A to D; new A.x: int 0..9 = 1;",
        "rename D.o to p; new kind B { m: int 0..9; };",
    )
    EMPTY = Heap({1: {}, 2: {}, 3: {}, 4: {}})

    def filled(self):
        return self.changed(
            self.LINE, self.EMPTY, 1, ("make", 1, "A", {"n": 1}), ("make", 2, "A", {"n": 2, "r": 1}), ("make", 3, "B", {"m": 3}),
            ("link", 1, "l", 2, None), ("link", 1, "l", 3, None), ("put", 1, "r", 3),
        )

    def test_from_the_first_version(self):
        found = self.filled()
        self.assertEqual(found.pictures, {
            1: {1: thing("A", n=1, l=[3, 2], r=3), 2: thing("A", n=2, l=[], r=1), 3: thing("B", m=3)},
            2: {1: thing("A", o=1, l=[3, 2], r=3), 2: thing("A", o=2, l=[], r=1)},
            3: {1: thing("D", o=1, l=[3, 2], r=3, x=1), 2: thing("D", o=2, l=[], r=1, x=1)},
            4: {1: thing("D", p=1, l=[3, 2], r=3, x=1), 2: thing("D", p=2, l=[], r=1, x=1)},
        })

    def test_from_the_last_version(self):
        found = self.changed(self.LINE, self.filled(), 4, ("put", 2, "p", 7), ("make", 5, "D", {"x": 4}), ("make", 6, "B", {"m": 1}))
        self.assertEqual(found.picture_of(1)[2], thing("A", n=7, l=[], r=1))
        self.assertEqual(found.picture_of(2)[2], thing("A", o=7, l=[], r=1))
        self.assertEqual(found.picture_of(1)[5], thing("A", n=None, l=[], r=None))
        self.assertEqual(found.picture_of(3)[5], thing("D", o=None, l=[], r=None, x=4))
        self.assertEqual([sorted(found.picture_of(one)) for one in (1, 2, 3, 4)], [[1, 2, 3, 5], [1, 2, 5], [1, 2, 5], [1, 2, 5, 6]])

    def test_from_a_version_between(self):
        found = self.changed(self.LINE, self.filled(), 3, ("put", 1, "o", 8), ("put", 2, "x", 9))
        self.assertEqual([found.picture_of(1)[1].contents["n"], found.picture_of(2)[1].contents["o"]], [8, 8])
        self.assertEqual(found.picture_of(4)[1], thing("D", p=8, l=[3, 2], r=3, x=1))
        self.assertEqual(found.picture_of(4)[2], thing("D", p=2, l=[], r=1, x=9))
        self.assertEqual(found.picture_of(1)[2], thing("A", n=2, l=[], r=1))

    def test_numbers_of_gone_objects_are_taken_out_of_all_contents_of_all_pictures(self):
        found = self.changed(self.LINE, self.filled(), 4, ("delete", 2))
        for one in (1, 2, 3, 4):
            self.assertEqual(found.picture_of(one)[1].contents["l"], [3])
            self.assertNotIn(2, found.picture_of(one))
        # Version 4 has no object 3, but the others hold its number.
        found = self.changed(self.LINE, self.filled(), 1, ("delete", 3))
        for one in (1, 2, 3, 4):
            self.assertEqual((found.picture_of(one)[1].contents["l"], found.picture_of(one)[1].contents["r"]), ([2], None))

    def test_numbers_that_are_not_told_are_taken_out_of_the_picture_that_is_changed(self):
        line = line_of("kind A { r: ref B; l: list B; } kind B { }", "")
        picture = {1: thing("A", r=2, l=[2, 3]), 2: thing("A", r=None, l=[]), 3: thing("B")}
        found = self.changed(line, Heap({1: picture, 2: picture}), 1, ("delete", 2))
        wanted = {1: thing("A", r=None, l=[3]), 3: thing("B")}
        self.assertEqual(found.pictures, {1: wanted, 2: wanted})

    def test_objects_that_left_a_far_picture_only_keep_their_numbers_in_contents(self):
        line = line_of(
            'kind A { r: ref S; l: list S; } kind S { c: one of "x", "y"; }', 'split S by c into "x" as X, "y" as Y;',
            "gone kind X;",
        )
        heap = self.changed(line, Heap({1: {}, 2: {}, 3: {}}), 1, ("make", 5, "S", {"c": "y"}), ("make", 6, "A", {"r": 5}),
                            ("link", 6, "l", 5, None))
        self.assertEqual(heap.picture_of(3), {5: thing("Y"), 6: thing("A", r=5, l=[5])})
        found = self.changed(line, heap, 1, ("put", 5, "c", "x"))
        self.assertEqual(found.picture_of(2)[5], thing("X"))
        self.assertEqual(found.picture_of(3), {6: thing("A", r=5, l=[5])})
        self.assertEqual(found.picture_of(1)[6], thing("A", r=5, l=[5]))
        # It comes again when it has a kind again.
        self.assertEqual(self.changed(line, found, 1, ("put", 5, "c", "y")), heap)

    def test_a_line_of_one_version(self):
        line = line_of("kind A { r: ref A; }")
        found = self.changed(line, Heap({1: {1: thing("A", r=2), 2: thing("A", r=1)}}), 1, ("delete", 2), ("make", 3, "A", {"r": 1}))
        self.assertEqual(found.pictures, {1: {1: thing("A", r=None), 3: thing("A", r=1)}})

    def test_a_line_of_two_versions(self):
        line = line_of("kind A { n: int 0..9; }", "change A.n: int 0..5 else 5;")
        heap = self.changed(line, Heap({1: {}, 2: {}}), 1, ("make", 1, "A", {"n": 8}))
        self.assertEqual(heap.pictures, {1: {1: thing("A", n=8)}, 2: {1: thing("A", n=5)}})
        heap = self.changed(line, heap, 2, ("put", 1, "n", 4))
        self.assertEqual(heap.pictures, {1: {1: thing("A", n=4)}, 2: {1: thing("A", n=4)}})

    def test_other_numbers_of_versions(self):
        step = step_of("kind A { n: int 0..9; }", "rename A.n to m;")
        line = Line([Version(9, step.elder, None), Version(4, step.younger, step)])
        found = self.changed(line, Heap({9: {}, 4: {}}), 4, ("make", 1, "A", {"m": 8}))
        self.assertEqual(found.pictures, {9: {1: thing("A", n=8)}, 4: {1: thing("A", m=8)}})

    def test_touches_end_where_nothing_counts_as_set(self):
        line = line_of("kind A { n: int 0..9; m: int 0..9; }", "gone A.n;", "rename A.m to o;")
        heap = Heap({1: {1: thing("A", n=1, m=2)}, 2: {1: thing("A", m=3)}, 3: {1: thing("A", o=4)}})
        found = self.changed(line, heap, 1, ("put", 1, "n", 5))
        self.assertEqual(found.pictures, {1: {1: thing("A", n=5, m=2)}, 2: {1: thing("A", m=3)}, 3: {1: thing("A", o=4)}})


class VersionsTest(unittest.TestCase):
    LINE = line_of("kind A { n: int 0..9; l: list A or B; } kind B { r: ref A; }", "rename A.n to m; gone kind B;",
                   "new A.x: int 0..9 = 3; new kind C { r: ref A or C; };")
    HEAP = Heap({
        1: {1: thing("A", n=1, l=[2, 3, 4]), 2: thing("A", n=2, l=[]), 3: thing("B", r=1)},
        2: {1: thing("A", m=1, l=[2, 3, 4]), 2: thing("A", m=2, l=[])},
    })

    def test_with_version(self):
        before = self.HEAP.copied()
        found = with_version(self.LINE, self.HEAP)
        self.assertEqual(found.pictures, {
            1: self.HEAP.picture_of(1),
            2: self.HEAP.picture_of(2),
            3: {1: thing("A", m=1, l=[2, 3, 4], x=3), 2: thing("A", m=2, l=[], x=3)},
        })
        found.picture_of(2)[1].contents["l"].append(7)
        found.picture_of(3)[1].contents["l"].append(8)
        self.assertEqual(self.HEAP, before)

    def test_objects_for_which_there_is_no_kind(self):
        line = Line(self.LINE.versions[:2])
        found = with_version(line, Heap({1: self.HEAP.picture_of(1)}))
        self.assertEqual(found, self.HEAP)

    def test_without_the_first_version(self):
        before = self.HEAP.copied()
        found = without_version(Line(self.LINE.versions[:2]), self.HEAP, 1)
        # Object 3 was in the first picture alone; 4 was in none.
        self.assertEqual(found.pictures, {2: {1: thing("A", m=1, l=[2, 4]), 2: thing("A", m=2, l=[])}})
        found.picture_of(2)[1].contents["l"].append(7)
        self.assertEqual(self.HEAP, before)

    def test_without_the_last_version(self):
        heap = with_version(self.LINE, self.HEAP)
        heap.picture_of(3)[9] = thing("C", r=9)
        heap.picture_of(3)[3] = thing("C", r=None)
        heap.picture_of(3)[2].contents["l"] = [9]
        heap.picture_of(1)[2].contents["l"] = [9, 1]
        heap.picture_of(1)[3].contents["r"] = 9
        found = without_version(self.LINE, heap, 3)
        self.assertEqual(found.pictures, {
            1: {1: thing("A", n=1, l=[2, 3, 4]), 2: thing("A", n=2, l=[1]), 3: thing("B", r=None)},
            2: self.HEAP.picture_of(2),
        })

    def test_the_only_version(self):
        self.assertEqual(without_version(Line(self.LINE.versions[:1]), Heap({1: self.HEAP.picture_of(1)}), 1), Heap({}))


if __name__ == "__main__":
    unittest.main()
