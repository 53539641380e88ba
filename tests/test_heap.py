"""Points [57] and [58]: the line and the heap; and numbers that are taken out of contents."""

import unittest

from helper import step_of, thing
from oneheap.heap.heap import Heap, without_numbers
from oneheap.heap.line import Line, Version
from oneheap.schemas.reading import read_schema


class LineTest(unittest.TestCase):
    def setUp(self):
        self.step = step_of("kind A { n: int 0..9; }", "rename A to B;")
        self.versions = [Version(4, self.step.elder, None), Version(7, self.step.younger, self.step, True)]

    def test_version(self):
        one, other = self.versions
        self.assertEqual((one.number, one.schema, one.step, one.shut), (4, self.step.elder, None, False))
        self.assertEqual((other.number, other.schema, other.step, other.shut), (7, self.step.younger, self.step, True))
        self.assertIs(other.step, self.step)

    def test_look_ups(self):
        line = Line(self.versions)
        self.assertEqual((line.place_of(4), line.place_of(7), line.place_of(5)), (0, 1, None))
        self.assertIs(line.schema_of(4), self.step.elder)
        self.assertIs(line.schema_of(7), self.step.younger)
        self.assertEqual(line.version_numbers(), [4, 7])

    def test_the_list_is_a_new_one_of_the_given_versions(self):
        line = Line(self.versions)
        self.assertIs(line.versions[0], self.versions[0])
        self.assertIs(line.versions[1], self.versions[1])
        self.versions.pop()
        self.assertEqual(line.version_numbers(), [4, 7])
        line.version_numbers().pop()
        self.assertEqual(line.version_numbers(), [4, 7])
        self.assertEqual(len(self.versions), 1)


class HeapTest(unittest.TestCase):
    def setUp(self):
        self.pictures = {4: {1: thing("A", l=[1])}, 7: {1: thing("B", n=3), 2: thing("B", n=None)}}

    def test_copies(self):
        heap = Heap(self.pictures)
        self.assertEqual(heap.pictures, self.pictures)
        heap.pictures[4][1].contents["l"].append(5)
        del heap.pictures[7][2]
        self.assertEqual(self.pictures, {4: {1: thing("A", l=[1])}, 7: {1: thing("B", n=3), 2: thing("B", n=None)}})

    def test_picture_of(self):
        heap = Heap(self.pictures)
        self.assertEqual(heap.picture_of(7), self.pictures[7])
        self.assertIs(heap.picture_of(7), heap.pictures[7])

    def test_copied(self):
        heap = Heap(self.pictures)
        other = heap.copied()
        self.assertTrue(heap == other)
        other.picture_of(4)[1].contents["l"].append(5)
        other.pictures[9] = {}
        self.assertEqual(heap.pictures, self.pictures)

    def test_equal(self):
        heap = Heap(self.pictures)
        self.assertTrue(heap == Heap(self.pictures))
        others = [Heap({}), Heap({4: self.pictures[4]}), Heap({**self.pictures, 7: {}}), None, self.pictures,
                  Heap({4: {1: thing("A", l=[2])}, 7: self.pictures[7]})]
        for other in others:
            self.assertFalse(heap == other)


class WithoutNumbersTest(unittest.TestCase):
    SCHEMA = read_schema("kind A { n: int 0..99; r: ref A; l: list A; t: text 3; } kind B { r: ref B takes; }")

    def test_without(self):
        picture = {
            1: thing("A", n=3, r=3, l=[1, 3, 5, 9, 4], t="3"),
            2: thing("A", n=None, r=4, l=[], t=None),
            3: thing("B", r=5),
            4: thing("B", r=None),
        }
        before = {number: one.copied() for number, one in picture.items()}
        gone = [3, 5]
        found = without_numbers(self.SCHEMA, picture, gone)
        self.assertEqual(found, {
            1: thing("A", n=3, r=None, l=[1, 9, 4], t="3"),
            2: thing("A", n=None, r=4, l=[], t=None),
            3: thing("B", r=None),
            4: thing("B", r=None),
        })
        self.assertEqual(list(found[1].contents), ["n", "r", "l", "t"])
        found[1].contents["l"].append(7)
        found[2].contents["l"].append(7)
        del found[3]
        self.assertEqual((picture, gone), (before, [3, 5]))

    def test_nothing_gone(self):
        picture = {1: thing("A", n=3, r=3, l=[1, 3], t="3")}
        found = without_numbers(self.SCHEMA, picture, [])
        self.assertEqual(found, picture)
        found[1].contents["l"].append(7)
        self.assertEqual(picture[1].contents["l"], [1, 3])


if __name__ == "__main__":
    unittest.main()
