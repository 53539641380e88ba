"""Points [33] to [37]: things, pictures, and sources over them."""

import unittest

from helper import thing
from oneheap.objects.source import PictureSource
from oneheap.objects.thing import Thing, blank_thing, holds_number, picture_copy, told_content
from oneheap.schemas.reading import read_schema

SCHEMA = read_schema('kind A { n: int 0..9; t: text 5; r: ref A or B; l: list B; } kind B { n: int 0..9; } kind C { }')
A = SCHEMA.kind_of("A")


class ThingTest(unittest.TestCase):
    def test_fields(self):
        one = Thing("A", {"n": 1, "l": [2, 3]})
        self.assertEqual((one.kind, one.contents, list(one.contents)), ("A", {"n": 1, "l": [2, 3]}, ["n", "l"]))

    def test_contents_are_copies(self):
        contents = {"n": 1, "l": [2]}
        one = Thing("A", contents)
        contents["n"] = 5
        contents["l"].append(7)
        self.assertEqual(one.contents, {"n": 1, "l": [2]})

    def test_copied(self):
        one = thing("A", n=1, l=[2])
        other = one.copied()
        self.assertEqual(one, other)
        self.assertEqual(list(other.contents), ["n", "l"])
        other.contents["n"] = 5
        other.contents["l"].append(7)
        other.kind = "B"
        self.assertEqual((one.kind, one.contents), ("A", {"n": 1, "l": [2]}))

    def test_equal(self):
        self.assertTrue(thing("A", n=1, l=[2, 3]) == thing("A", l=[2, 3], n=1))
        for other in (thing("B", n=1, l=[2, 3]), thing("A", n=2, l=[2, 3]), thing("A", n=1, l=[3, 2]), thing("A", n=1),
                      None, "A", {"n": 1, "l": [2, 3]}, ("A", {"n": 1, "l": [2, 3]})):
            self.assertFalse(thing("A", n=1, l=[2, 3]) == other, other)
            self.assertTrue(thing("A", n=1, l=[2, 3]) != other, other)

    def test_blank_thing(self):
        one = blank_thing(A)
        self.assertEqual(one, thing("A", n=None, t=None, r=None, l=[]))
        self.assertEqual(list(one.contents), ["n", "t", "r", "l"])
        one.contents["l"].append(1)
        self.assertEqual(blank_thing(A).contents["l"], [])
        self.assertEqual(blank_thing(SCHEMA.kind_of("C")), thing("C"))

    def test_holds_number(self):
        for content, held in ((5, True), (4, False), (None, False), ("5", False), ([], False), ([5], True), ([4, 5], True),
                              ([4], False)):
            self.assertIs(holds_number(content, 5), held, content)

    def test_picture_copy(self):
        picture = {3: thing("A", l=[1]), 1: thing("B", n=2)}
        copied = picture_copy(picture)
        self.assertEqual(copied, picture)
        copied[3].contents["l"].append(9)
        del copied[1]
        self.assertEqual(picture, {3: thing("A", l=[1]), 1: thing("B", n=2)})


class ToldContentTest(unittest.TestCase):
    PICTURE = {1: thing("A", n=1, t=None, r=None, l=[]), 2: thing("B", n=1), 3: thing("C"), 4: thing("B", n=1)}

    def told(self, name, content):
        return told_content(PictureSource(self.PICTURE), A.field_of(name), content)

    def test_plain_fields(self):
        for name, content in (("n", 5), ("n", None), ("t", ""), ("t", "abc"), ("t", None)):
            self.assertEqual(self.told(name, content), content)

    def test_references(self):
        for content, told in ((1, 1), (2, 2), (3, None), (9, None), (None, None)):
            self.assertEqual(self.told("r", content), told, content)

    def test_lists(self):
        for content, told in (([], []), ([4, 2], [4, 2]), ([1, 4, 9, 2, 3], [4, 2]), ([1], []), ([9], [])):
            self.assertEqual(self.told("l", content), told, content)

    def test_a_told_list_is_a_new_one(self):
        content = [4, 2]
        self.told("l", content).append(7)
        self.assertEqual(content, [4, 2])


class PictureSourceTest(unittest.TestCase):
    def setUp(self):
        self.picture = {
            7: thing("A", n=3, t="x", r=2, l=[2, 4]),
            2: thing("B", n=3),
            5: thing("A", n=3, t="y", r=9, l=[9]),
            4: thing("B", n=None),
            6: thing("A", n=None, t="x", r=2, l=[]),
        }
        self.source = PictureSource(self.picture)

    def test_thing(self):
        self.assertIs(self.source.thing(7), self.picture[7])
        self.assertIsNone(self.source.thing(1))

    def test_the_picture_is_not_copied(self):
        self.picture[1] = thing("B", n=1)
        del self.picture[2]
        self.assertIs(self.source.thing(1), self.picture[1])
        self.assertEqual(self.source.numbers("B"), [1, 4])

    def test_numbers(self):
        self.assertEqual(self.source.numbers("A"), [5, 6, 7])
        self.assertEqual(self.source.numbers("B"), [2, 4])
        self.assertEqual(self.source.numbers("C"), [])

    def test_referrers(self):
        for number, kind, field, found in ((2, "A", "r", [6, 7]), (2, "A", "l", [7]), (9, "A", "r", [5]), (9, "A", "l", [5]),
                                           (4, "A", "r", []), (2, "B", "n", []), (2, "C", "r", []), (2, "A", "q", []),
                                           (3, "B", "n", [2])):
            self.assertEqual(self.source.referrers(number, kind, field), found, (number, kind, field))

    def test_alike(self):
        for kind, names, amounts, found in (("A", ["n"], [3], [5, 7]), ("A", ["t", "n"], ["x", 3], [7]), ("A", ["n"], [None], [6]),
                                            ("A", ["r"], [2], [6, 7]), ("A", ["r"], [9], [5]), ("A", ["l"], [[2, 4]], [7]),
                                            ("A", ["l"], [[4, 2]], []), ("A", [], [], [5, 6, 7]), ("B", ["n"], [3], [2]),
                                            ("C", ["n"], [3], []), ("A", ["q"], [None], []), ("A", ["n", "t"], [3, "z"], [])):
            self.assertEqual(self.source.alike(kind, names, amounts), found, (kind, names, amounts))


if __name__ == "__main__":
    unittest.main()
