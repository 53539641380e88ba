"""Points [53] to [56]: constraints against objects, and sizes."""

import unittest

from helper import thing
from oneheap.objects.constraints import constraints_against, first_against, picture_size
from oneheap.objects.thing import picture_copy
from oneheap.objects.touching import Touch
from oneheap.schemas.reading import read_schema

SCHEMA = read_schema(
    'kind Book { writer: ref Author not null; n: int 0..9 not null; t: text 9; c: one of "one", "two"; r: ref Book; '
    "l: list Book; key t, r; key n; } kind Author { n: int 0..9; key n; } kind Firm { }"
)


def book(**contents):
    return thing("Book", **{**{"writer": 90, "n": None, "t": None, "c": None, "r": None, "l": []}, **contents})


PICTURE = {
    1: book(n=1, t="a", r=2),
    2: book(n=2, t="a", r=2),
    3: book(n=2, t="b", r=None),
    4: book(n=None, t="a", r=2),
    5: book(n=5, t="b", r=None, writer=None),
    6: book(n=6, t="a", r=77, writer=1),
    7: book(n=7, t="a", r=77, writer=77),
    8: book(n=8, t="a", r=90),
    9: book(n=9, t="z", r=2),
    10: book(n=None, t="q", r=90, writer=None),
    90: thing("Author", n=1),
    91: thing("Author", n=1),
    92: thing("Author", n=None),
    93: thing("Author", n=None),
    94: thing("Firm"),
}


class ConstraintsAgainstTest(unittest.TestCase):
    def test_against(self):
        rows = [
            (1, ["Book key t, r"]),
            (2, ["Book key t, r", "Book key n"]),
            (3, ["Book key n"]),
            (4, ["Book.n needed", "Book key t, r"]),
            (5, ["Book.writer needed"]),
            (6, ["Book.writer needed"]),
            (7, ["Book.writer needed"]),
            (8, []),
            (9, []),
            (10, ["Book.writer needed", "Book.n needed"]),
            (90, ["Author key n"]),
            (91, ["Author key n"]),
            (92, []),
            (94, []),
        ]
        picture = picture_copy(PICTURE)
        for number, found in rows:
            self.assertEqual(constraints_against(SCHEMA, picture, number), found, number)
        self.assertEqual(picture, PICTURE)

    def test_contents_that_are_alike_but_not_told_are_no_values_of_a_key(self):
        picture = {1: book(n=1, t="a", r=77), 2: book(n=2, t="a", r=77), 90: thing("Author", n=1)}
        self.assertEqual(constraints_against(SCHEMA, picture, 1), [])
        picture[77] = book(n=3)
        self.assertEqual(constraints_against(SCHEMA, picture, 1), ["Book key t, r"])

    def test_objects_of_other_kinds_do_not_count(self):
        schema = read_schema("kind A { n: int 0..9; key n; } kind B { n: int 0..9; key n; }")
        self.assertEqual(constraints_against(schema, {1: thing("A", n=1), 2: thing("B", n=1)}, 1), [])


class FirstAgainstTest(unittest.TestCase):
    def first(self, *touches):
        return first_against(SCHEMA, PICTURE, [Touch(*touch) for touch in touches])

    def test_nothing(self):
        self.assertIsNone(self.first())
        self.assertIsNone(self.first((1, False, False, ["n", "c", "l"]), (9, True, False, [])))

    def test_fields_that_count_as_set(self):
        self.assertEqual(self.first((2, False, False, ["n"])), (2, "Book key n"))
        self.assertEqual(self.first((2, False, False, ["n", "r"])), (2, "Book key t, r"))
        self.assertEqual(self.first((2, False, False, ["t"])), (2, "Book key t, r"))
        self.assertEqual(self.first((10, False, False, ["n"])), (10, "Book.n needed"))
        self.assertEqual(self.first((10, False, False, ["n", "writer"])), (10, "Book.writer needed"))
        self.assertIsNone(self.first((10, False, False, ["t", "r", "c", "l"])))
        self.assertEqual(self.first((4, False, False, ["t", "n"])), (4, "Book.n needed"))
        self.assertEqual(self.first((4, False, False, ["t"])), (4, "Book key t, r"))

    def test_made_objects(self):
        self.assertEqual(self.first((2, True, False, [])), (2, "Book key t, r"))
        self.assertEqual(self.first((10, True, False, ["t"])), (10, "Book.writer needed"))
        self.assertEqual(self.first((90, True, False, [])), (90, "Author key n"))

    def test_touch_by_touch(self):
        self.assertEqual(self.first((9, True, False, []), (3, False, False, ["n"]), (2, True, False, [])), (3, "Book key n"))
        self.assertEqual(self.first((2, True, False, []), (3, False, False, ["n"])), (2, "Book key t, r"))

    def test_objects_that_are_not_there(self):
        self.assertEqual(self.first((77, False, True, []), (5, False, False, ["writer"])), (5, "Book.writer needed"))
        self.assertIsNone(self.first((77, False, True, []), (78, True, False, ["n"])))


class SizeTest(unittest.TestCase):
    def size(self, picture):
        return picture_size(SCHEMA, picture)

    def test_sizes(self):
        self.assertEqual(self.size({}), 0)
        self.assertEqual(self.size({1: thing("Firm")}), 1)
        self.assertEqual(self.size({1: thing("Author", n=None)}), 2)
        self.assertEqual(self.size({1: thing("Author", n=9), 2: thing("Author", n=0)}), 4)
        self.assertEqual(self.size({1: book()}), 7)

    def test_texts(self):
        self.assertEqual(self.size({1: book(t="", c="one")}), 10)
        self.assertEqual(self.size({1: book(t="abcd")}), 11)

    def test_numbers_count_only_in_lists_and_only_if_they_are_told(self):
        picture = {1: book(r=2, l=[2, 1, 77, 90]), 2: book(r=99), 90: thing("Author", n=1)}
        self.assertEqual(self.size(picture), 9 + 7 + 2)


if __name__ == "__main__":
    unittest.main()
