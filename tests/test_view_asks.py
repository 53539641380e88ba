"""Points [38] to [41]: what a view tells."""

import unittest

from helper import thing
from oneheap.errors import (
    FieldIsList, FieldIsNoLink, FieldIsNoList, NoSuchField, NoSuchKey, NoSuchKind, NoSuchObject,
    ValueDoesNotFit,
)
from oneheap.objects.source import PictureSource
from oneheap.objects.thing import picture_copy
from oneheap.objects.view import View
from oneheap.schemas.reading import read_schema

SCHEMA = read_schema(
    "kind Book { title: text 9; year: int 0..9999; writer: ref Author or Firm; also: list Book; "
    "key title, year; key writer; } "
    "kind Author { name: text 9; best: ref Book; } kind Firm { name: text 9; }"
)
PICTURE = {
    1: thing("Book", title="a", year=1, writer=10, also=[2, 10, 99, 3]),
    2: thing("Book", title="b", year=1, writer=11, also=[]),
    3: thing("Book", title="a", year=1, writer=2, also=[1]),
    4: thing("Book", title=None, year=1, writer=98, also=[98, 2]),
    5: thing("Book", title="a", year=2, writer=10, also=[]),
    10: thing("Author", name="x", best=1),
    11: thing("Firm", name="x"),
    12: thing("Author", name="y", best=10),
}


class CountingSource(PictureSource):
    """A source over a picture that remembers for which things it was asked."""

    def __init__(self, picture):
        PictureSource.__init__(self, picture)
        self.asked = []

    def thing(self, number):
        self.asked.append(number)
        return PictureSource.thing(self, number)


class AskCase(unittest.TestCase):
    def setUp(self):
        self.picture = picture_copy(PICTURE)
        self.view = View(SCHEMA, PictureSource(self.picture))

    def tearDown(self):
        self.assertEqual(self.picture, PICTURE)


class AsksTest(AskCase):
    def test_fields(self):
        source = PictureSource({})
        view = View(SCHEMA, source)
        self.assertIs(view.schema, SCHEMA)
        self.assertIs(view.source, source)
        self.assertEqual(view.standing, [])

    def test_there_and_kind_of(self):
        self.assertIs(self.view.there(1), True)
        self.assertIs(self.view.there(99), False)
        self.assertEqual([self.view.kind_of(number) for number in (1, 10, 11)], ["Book", "Author", "Firm"])
        self.assertRaises(NoSuchObject, self.view.kind_of, 99)

    def test_told(self):
        rows = [(1, "title", "a"), (4, "title", None), (1, "year", 1), (1, "writer", 10), (2, "writer", 11), (3, "writer", None),
                (4, "writer", None), (10, "best", 1), (12, "best", None)]
        for number, field, told in rows:
            self.assertEqual(self.view.told(number, field), told, (number, field))

    def test_told_errors(self):
        self.assertRaises(NoSuchObject, self.view.told, 99, "title")
        self.assertRaises(NoSuchObject, self.view.told, 99, "nothing")
        self.assertRaises(NoSuchField, self.view.told, 1, "name")
        self.assertRaises(FieldIsList, self.view.told, 1, "also")

    def test_listed(self):
        for number, told in ((1, [2, 3]), (2, []), (3, [1]), (4, [2])):
            self.assertEqual(self.view.listed(number, "also"), told)
        self.view.listed(1, "also").append(7)
        self.assertEqual(self.view.listed(1, "also"), [2, 3])

    def test_listed_errors(self):
        self.assertRaises(NoSuchObject, self.view.listed, 99, "also")
        self.assertRaises(NoSuchObject, self.view.listed, 99, "nothing")
        self.assertRaises(NoSuchField, self.view.listed, 10, "also")
        self.assertRaises(FieldIsNoList, self.view.listed, 1, "title")
        self.assertRaises(FieldIsNoList, self.view.listed, 1, "writer")

    def test_for_which_things_the_source_is_asked(self):
        source = CountingSource({**self.picture, 13: thing("Author", name="z", best=None)})
        view = View(SCHEMA, source)
        rows = [
            (lambda: view.there(1), [1]),
            (lambda: view.there(99), [99]),
            (lambda: view.kind_of(1), [1]),
            (lambda: view.told(1, "title"), [1]),
            (lambda: view.told(1, "writer"), [1, 10]),
            (lambda: view.told(4, "writer"), [4, 98]),
            (lambda: view.listed(1, "also"), [1, 2, 10, 99, 3]),
            (lambda: view.listed(2, "also"), [2]),
            (lambda: view.told(13, "best"), [13]),
        ]
        for at, (call, asked) in enumerate(rows):
            source.asked = []
            call()
            self.assertEqual(source.asked, asked, at)

    def test_only_numbers_are_looked_for(self):
        source = CountingSource({True: thing("Author", name="z", best=None), 2: thing("Book", title="a", year=1, writer=None, also=[])})
        view = View(SCHEMA, source)
        for amount in ("x", True):
            source.asked = []
            self.assertRaises(ValueDoesNotFit, view.put, 2, "writer", amount)
            self.assertEqual(source.asked, [2])

    def test_look_up(self):
        rows = [(["title", "year"], ["a", 1], 1), (["title", "year"], ["b", 1], 2), (["title", "year"], ["a", 2], 5),
                (["title", "year"], ["a", 3], None), (["title", "year"], [None, 1], None), (["title", "year"], ["a", None], None),
                (["writer"], [10], 1), (["writer"], [11], 2), (["writer"], [2], None), (["writer"], [98], None), (["writer"], [None], None)]
        for names, amounts, found in rows:
            self.assertEqual(self.view.look_up("Book", names, amounts), found, (names, amounts))
            self.assertEqual(self.view.look_up("Book", tuple(names), tuple(amounts)), found, (names, amounts))

    def test_look_up_errors(self):
        self.assertRaises(NoSuchKind, self.view.look_up, "Nothing", ["title", "year"], ["a", 1])
        for kind, names in (("Book", ["year", "title"]), ("Book", ["title"]), ("Book", ["title", "year", "writer"]), ("Book", []),
                            ("Book", ["nothing"]), ("Author", ["title", "year"])):
            self.assertRaises(NoSuchKey, self.view.look_up, kind, names, [None for _ in names])

    def test_referred(self):
        rows = [(10, "Book", "writer", [1, 5]), (11, "Book", "writer", [2]), (2, "Book", "writer", []), (2, "Book", "also", [1, 4]),
                (1, "Book", "also", [3]), (10, "Book", "also", []), (1, "Author", "best", [10]), (10, "Author", "best", []),
                (12, "Book", "writer", [])]
        for number, kind, field, found in rows:
            self.assertEqual(self.view.referred(number, kind, field), found, (number, kind, field))

    def test_referred_errors(self):
        self.assertRaises(NoSuchObject, self.view.referred, 99, "Nothing", "writer")
        self.assertRaises(NoSuchObject, self.view.referred, 98, "Book", "writer")
        self.assertRaises(NoSuchKind, self.view.referred, 10, "Nothing", "writer")
        self.assertRaises(NoSuchField, self.view.referred, 10, "Author", "writer")
        self.assertRaises(FieldIsNoLink, self.view.referred, 10, "Book", "title")

    def test_as_a_source(self):
        self.assertEqual(self.view.thing(2), PICTURE[2])
        self.assertIsNone(self.view.thing(99))
        self.assertEqual(self.view.numbers("Author"), [10, 12])
        self.assertEqual(self.view.numbers("Nothing"), [])
        self.assertEqual(self.view.referrers(98, "Book", "writer"), [4])
        self.assertEqual(self.view.referrers(10, "Book", "also"), [1])
        self.assertEqual(self.view.alike("Book", ["writer", "year"], [10, 1]), [1])


class AsksOverEditsTest(AskCase):
    def setUp(self):
        AskCase.setUp(self)
        self.view.make(20, "Book", {"title": "b", "year": 1, "writer": 10})
        self.view.put(2, "title", "c")
        self.view.put(5, "writer", None)
        self.view.link(2, "also", 20)
        self.view.delete(12)
        self.view.delete(3)

    def test_what_was_made_changed_and_deleted(self):
        self.assertIs(self.view.there(20), True)
        self.assertIs(self.view.there(3), False)
        self.assertEqual(self.view.kind_of(20), "Book")
        self.assertEqual((self.view.told(20, "title"), self.view.told(20, "writer"), self.view.told(2, "title")), ("b", 10, "c"))
        self.assertEqual((self.view.listed(2, "also"), self.view.listed(1, "also")), ([20], [2]))
        self.assertRaises(NoSuchObject, self.view.kind_of, 3)
        self.assertRaises(NoSuchObject, self.view.told, 3, "title")
        self.assertRaises(NoSuchObject, self.view.listed, 3, "also")
        self.assertRaises(NoSuchObject, self.view.referred, 3, "Book", "also")

    def test_look_up(self):
        self.assertEqual(self.view.look_up("Book", ["title", "year"], ["b", 1]), 20)
        self.assertEqual(self.view.look_up("Book", ["title", "year"], ["c", 1]), 2)
        self.view.put(1, "title", "z")
        self.assertIsNone(self.view.look_up("Book", ["title", "year"], ["a", 1]))
        self.view.put(20, "title", "c")
        self.assertEqual(self.view.look_up("Book", ["title", "year"], ["c", 1]), 2)

    def test_referred(self):
        self.assertEqual(self.view.referred(10, "Book", "writer"), [1, 20])
        self.assertEqual(self.view.referred(20, "Book", "also"), [2])
        self.assertEqual(self.view.referred(1, "Book", "also"), [])

    def test_as_a_source(self):
        self.assertEqual(self.view.thing(20), thing("Book", title="b", year=1, writer=10, also=[]))
        self.assertEqual(self.view.thing(1).contents["also"], [2, 10, 99])
        self.assertIsNone(self.view.thing(3))
        self.assertEqual(self.view.numbers("Book"), [1, 2, 4, 5, 20])
        self.assertEqual(self.view.numbers("Author"), [10])
        self.assertEqual(self.view.referrers(10, "Book", "writer"), [1, 20])
        self.assertEqual(self.view.alike("Book", ["year", "writer"], [1, 10]), [1, 20])
        self.assertEqual(self.view.alike("Book", ["title"], ["b"]), [20])

    def test_things_that_are_returned_are_not_shared(self):
        self.view.thing(20).contents["title"] = "q"
        self.view.thing(2).contents["also"].append(7)
        self.assertEqual((self.view.told(20, "title"), self.view.listed(2, "also")), ("b", [20]))

    def test_a_view_over_a_view(self):
        view = View(SCHEMA, self.view)
        view.put(20, "title", "q")
        view.delete(1)
        self.assertEqual(view.numbers("Book"), [2, 4, 5, 20])
        self.assertEqual((view.told(20, "title"), self.view.told(20, "title")), ("q", "b"))
        self.assertEqual(self.view.numbers("Book"), [1, 2, 4, 5, 20])
        self.assertEqual(view.referred(10, "Book", "writer"), [20])


if __name__ == "__main__":
    unittest.main()
