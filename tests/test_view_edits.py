"""Points [42] to [47]: edits of a view, and undo."""

import unittest

from helper import thing
from oneheap.errors import (
    FieldIsList, FieldIsNoList, ListIsFull, NoSuchField, NoSuchKind, NoSuchObject, NotLinked, ValueDoesNotFit,
)
from oneheap.objects.source import PictureSource
from oneheap.objects.thing import picture_copy
from oneheap.objects.view import Refusing, View
from oneheap.schemas.reading import read_schema

SCHEMA = read_schema(
    'kind Book { title: text 5; year: int 0..99 not null; state: one of "new", "old"; writer: ref Author takes; '
    "also: list Book or Author; } kind Author { name: text 9; } kind Firm { }"
)
PICTURE = {
    1: thing("Book", title="a", year=1, state="new", writer=10, also=[2, 11, 99, 3]),
    2: thing("Book", title="b", year=1, state=None, writer=99, also=[]),
    3: thing("Book", title="c", year=None, state="old", writer=None, also=[99, 3, 11]),
    10: thing("Author", name="x"),
    11: thing("Firm"),
    12: thing("Author", name="y"),
}


class EditCase(unittest.TestCase):
    def setUp(self):
        self.picture = picture_copy(PICTURE)
        self.view = View(SCHEMA, PictureSource(self.picture))

    def tearDown(self):
        self.assertEqual(self.picture, PICTURE)

    def seen(self):
        """Return the picture that the view sees."""
        return self.view.picture(self.picture)

    def check_refused(self, error, call, *told):
        """Check that a call raises an error and changes nothing."""
        before, standing = self.seen(), list(self.view.standing)
        self.assertRaises(error, call, *told)
        self.assertEqual((self.seen(), self.view.standing), (before, standing))

    def check_undone(self, call, *told):
        """Check that an edit changes what is seen, and that undo takes it off."""
        before, standing = self.seen(), list(self.view.standing)
        call(*told)
        after = self.seen()
        self.assertEqual(len(self.view.standing), len(standing) + 1)
        self.assertNotEqual(after, before)
        self.assertIs(self.view.undo(), True)
        self.assertEqual((self.seen(), self.view.standing), (before, standing))
        call(*told)
        self.assertEqual(self.seen(), after)


class MakeTest(EditCase):
    def test_nothing_given(self):
        self.assertIsNone(self.view.make(20, "Book", {}))
        self.assertEqual(self.view.thing(20), thing("Book", title=None, year=None, state=None, writer=None, also=[]))
        self.view.make(21, "Firm", {})
        self.assertEqual(self.view.thing(21), thing("Firm"))

    def test_given_values(self):
        self.view.make(20, "Book", {"writer": 12, "year": 99, "title": "abcde"})
        made = self.view.thing(20)
        self.assertEqual(made, thing("Book", title="abcde", year=99, state=None, writer=12, also=[]))
        self.assertEqual(list(made.contents), ["title", "year", "state", "writer", "also"])
        self.view.make(21, "Book", {"year": None, "writer": None, "state": "old"})
        self.assertEqual(self.view.thing(21), thing("Book", title=None, year=None, state="old", writer=None, also=[]))

    def test_errors(self):
        self.check_refused(NoSuchKind, self.view.make, 20, "Nothing", {"title": 7})
        self.check_refused(NoSuchField, self.view.make, 20, "Book", {"name": "x"})
        self.check_refused(FieldIsList, self.view.make, 20, "Book", {"also": None})
        self.check_refused(FieldIsList, self.view.make, 20, "Book", {"title": "a", "also": 2})

    def test_values_that_do_not_fit(self):
        for name, amount in (("title", "abcdef"), ("title", 3), ("year", -1), ("year", 100), ("year", "1"), ("state", "x"),
                             ("state", 1), ("writer", 1), ("writer", 11), ("writer", 99), ("writer", 20), ("writer", "10"),
                             ("writer", 0)):
            self.check_refused(ValueDoesNotFit, self.view.make, 20, "Book", {name: amount})

    def test_errors_in_the_order_of_the_dict(self):
        self.check_refused(ValueDoesNotFit, self.view.make, 20, "Book", {"title": 7, "name": 1, "also": None})
        self.check_refused(NoSuchField, self.view.make, 20, "Book", {"year": 1, "name": 1, "title": 7})
        self.check_refused(FieldIsList, self.view.make, 20, "Book", {"also": None, "name": 1, "title": 7})

    def test_contents_are_not_shared(self):
        contents = {"title": "a"}
        self.view.make(20, "Book", contents)
        contents["title"] = "b"
        contents["year"] = 5
        self.assertEqual(self.view.standing, [("make", 20, "Book", {"title": "a"})])
        self.assertEqual(self.view.thing(20), thing("Book", title="a", year=None, state=None, writer=None, also=[]))

    def test_undo(self):
        self.check_undone(self.view.make, 20, "Book", {"title": "a"})

    def test_what_was_made_can_be_referred_to(self):
        self.view.make(20, "Author", {})
        self.view.make(21, "Book", {"writer": 20})
        self.assertEqual(self.view.told(21, "writer"), 20)


class PutTest(EditCase):
    def test_put(self):
        for number, field, amount in ((1, "title", "z"), (1, "title", ""), (1, "year", 0), (1, "state", "old"), (1, "writer", 12),
                                      (2, "writer", 10), (1, "year", None), (1, "writer", None), (3, "year", None)):
            self.assertIsNone(self.view.put(number, field, amount))
            self.assertEqual(self.view.thing(number).contents[field], amount)
        self.assertEqual(len(self.view.standing), 9)

    def test_the_other_contents_stay(self):
        self.view.put(1, "title", "z")
        self.assertEqual(self.view.thing(1), thing("Book", title="z", year=1, state="new", writer=10, also=[2, 11, 99, 3]))
        self.assertEqual(list(self.view.thing(1).contents), list(PICTURE[1].contents))

    def test_errors(self):
        self.check_refused(NoSuchObject, self.view.put, 99, "name", 7)
        self.check_refused(NoSuchField, self.view.put, 1, "name", 7)
        self.check_refused(FieldIsList, self.view.put, 1, "also", None)

    def test_values_that_do_not_fit(self):
        for name, amount in (("title", "abcdef"), ("title", 3), ("year", -1), ("year", 100), ("state", "x"), ("writer", 1),
                             ("writer", 11), ("writer", 99), ("writer", "x")):
            self.check_refused(ValueDoesNotFit, self.view.put, 1, name, amount)
        self.view.delete(12)
        self.check_refused(ValueDoesNotFit, self.view.put, 1, "writer", 12)

    def test_undo(self):
        self.check_undone(self.view.put, 1, "title", "z")
        self.check_undone(self.view.put, 1, "year", None)
        self.check_undone(self.view.put, 2, "writer", 12)
        self.check_undone(self.view.put, 1, "title", "y")


class LinkTest(EditCase):
    def check_links(self, rows):
        """Check what list of object 1 comes of linking a number behind another one in [2, 11, 99, 3]."""
        for other, behind, content in rows:
            view = View(SCHEMA, PictureSource(self.picture))
            self.assertIsNone(view.link(1, "also", other, behind))
            self.assertEqual(view.thing(1).contents["also"], content, (other, behind))

    def test_ahead_of_all(self):
        self.check_links([(10, None, [10, 2, 11, 99, 3]), (1, None, [1, 2, 11, 99, 3]), (3, None, [3, 2, 11, 99]),
                          (2, None, [2, 11, 99, 3])])

    def test_behind_another_one(self):
        self.check_links([(10, 2, [2, 10, 11, 99, 3]), (10, 3, [2, 11, 99, 3, 10]), (3, 2, [2, 3, 11, 99]),
                          (2, 3, [11, 99, 3, 2])])

    def test_behind_can_be_left_out(self):
        self.view.link(1, "also", 10)
        self.assertEqual(self.view.thing(1).contents["also"], [10, 2, 11, 99, 3])
        self.assertEqual(self.view.standing, [("link", 1, "also", 10, None)])

    def test_a_number_that_stands_already_is_ahead_of_numbers_that_are_not_told(self):
        self.view.link(3, "also", 3)
        self.assertEqual(self.view.thing(3).contents["also"], [3, 99, 11])
        self.view.link(3, "also", 2, 3)
        self.assertEqual(self.view.thing(3).contents["also"], [3, 2, 99, 11])

    def test_errors(self):
        self.check_refused(NoSuchObject, self.view.link, 99, "name", 98, 2)
        self.check_refused(NoSuchField, self.view.link, 1, "name", 98, 7)
        self.check_refused(FieldIsNoList, self.view.link, 1, "title", 98, 7)
        self.check_refused(FieldIsNoList, self.view.link, 1, "writer", 10, None)
        for other in (98, 99, 11):
            self.check_refused(ValueDoesNotFit, self.view.link, 1, "also", other, 7)
        for other, behind in ((10, 10), (2, 2), (10, 11), (10, 99), (10, 12), (10, 98)):
            self.check_refused(NotLinked, self.view.link, 1, "also", other, behind)

    def test_a_full_list(self):
        for number in range(20, 33):
            self.view.make(number, "Author", {})
        for number in range(20, 30):
            self.view.link(1, "also", number)
        # It tells 12 numbers, and holds 14.
        self.assertEqual((len(self.view.listed(1, "also")), len(self.view.thing(1).contents["also"])), (12, 14))
        self.check_refused(ListIsFull, self.view.link, 1, "also", 30)
        self.check_refused(ListIsFull, self.view.link, 1, "also", 30, 20)
        self.check_refused(NotLinked, self.view.link, 1, "also", 30, 31)
        self.view.link(1, "also", 20)
        self.assertEqual(self.view.listed(1, "also")[:2], [20, 29])
        self.view.unlink(1, "also", 25)
        self.view.link(1, "also", 30, 20)
        self.assertEqual(self.view.listed(1, "also")[:3], [20, 30, 29])
        self.assertEqual(len(self.view.listed(1, "also")), 12)

    def test_eleven_numbers_are_not_full(self):
        for number in range(20, 33):
            self.view.make(number, "Author", {})
        for number in range(20, 32):
            self.view.link(2, "also", number)
        self.assertEqual(self.view.listed(2, "also"), list(range(31, 19, -1)))
        self.check_refused(ListIsFull, self.view.link, 2, "also", 32)

    def test_undo(self):
        self.check_undone(self.view.link, 1, "also", 10, 2)
        self.check_undone(self.view.link, 1, "also", 3)
        self.check_undone(self.view.link, 2, "also", 2)


class UnlinkTest(EditCase):
    def test_unlink(self):
        self.assertIsNone(self.view.unlink(1, "also", 2))
        self.assertEqual(self.view.thing(1).contents["also"], [11, 99, 3])
        self.view.unlink(1, "also", 3)
        self.assertEqual(self.view.thing(1).contents["also"], [11, 99])

    def test_numbers_that_are_not_told(self):
        for other in (11, 99, 10, 98, 3):
            self.view.unlink(1, "also", other)
        self.assertEqual(self.view.thing(1).contents["also"], [2, 11, 99])
        self.assertEqual(self.view.standing, [("unlink", 1, "also", other) for other in (11, 99, 10, 98, 3)])

    def test_errors(self):
        self.check_refused(NoSuchObject, self.view.unlink, 99, "name", 2)
        self.check_refused(NoSuchField, self.view.unlink, 1, "name", 2)
        self.check_refused(FieldIsNoList, self.view.unlink, 1, "writer", 10)

    def test_undo(self):
        self.check_undone(self.view.unlink, 1, "also", 2)
        self.view.unlink(1, "also", 11)
        self.assertIs(self.view.undo(), True)
        self.assertEqual(self.view.standing, [("unlink", 1, "also", 2)])


class UndoTest(EditCase):
    def test_nothing_stands(self):
        self.assertIs(self.view.undo(), False)
        self.view.put(1, "title", "z")
        self.assertIs(self.view.undo(), True)
        self.assertIs(self.view.undo(), False)

    def test_asks_and_refused_deletions_do_not_stand(self):
        view = View(read_schema("kind A { r: ref A refuses; }"), PictureSource({1: thing("A", r=2), 2: thing("A", r=None)}))
        view.told(1, "r")
        self.assertEqual(view.delete(2), Refusing(1, "r"))
        self.assertEqual(view.standing, [])
        self.assertIs(view.undo(), False)

    def test_all_sorts_of_edits_one_behind_the_other(self):
        seen = [self.seen()]
        deeds = [
            ("make", 20, "Book", {"title": "a", "writer": 12}), ("put", 20, "title", "b"), ("link", 20, "also", 1, None),
            ("link", 20, "also", 20, 1), ("unlink", 20, "also", 1), ("put", 1, "writer", 12), ("delete", 10), ("delete", 12),
            ("make", 12, "Author", {"name": "again"}), ("put", 12, "name", "z"),
        ]
        for at, deed in enumerate(deeds):
            self.view.do(deed)
            seen.append(self.seen())
            self.assertEqual(self.view.standing, deeds[:at + 1])
        for at in range(len(deeds) - 1, -1, -1):
            self.assertIs(self.view.do(("undo",)), True)
            self.assertEqual((self.seen(), self.view.standing), (seen[at], deeds[:at]))
        self.assertEqual(self.seen(), PICTURE)

    def test_an_object_that_is_made_again_behind_its_deletion(self):
        self.view.delete(11)
        self.view.make(11, "Firm", {})
        self.view.undo()
        self.assertIs(self.view.there(11), False)
        self.view.undo()
        self.assertIs(self.view.there(11), True)


class DoTest(EditCase):
    def test_asks(self):
        rows = [
            (("there", 1), True), (("there", 99), False), (("kind_of", 10), "Author"), (("told", 1, "title"), "a"),
            (("listed", 1, "also"), [2, 3]), (("referred", 10, "Book", "writer"), [1]), (("undo",), False),
        ]
        for deed, answer in rows:
            self.assertEqual(self.view.do(deed), answer, deed)
        self.assertRaises(NoSuchObject, self.view.do, ("kind_of", 99))

    def test_look_up(self):
        view = View(read_schema("kind A { a: int 0..9; key a; }"), PictureSource({4: thing("A", a=2)}))
        self.assertEqual(view.do(("look_up", "A", ("a",), (2,))), 4)

    def test_edits(self):
        self.assertIsNone(self.view.do(("make", 20, "Book", {"title": "q"})))
        self.assertIsNone(self.view.do(("put", 20, "year", 7)))
        self.assertIsNone(self.view.do(("link", 20, "also", 1, None)))
        self.assertIsNone(self.view.do(("link", 20, "also", 2, 1)))
        self.assertIsNone(self.view.do(("unlink", 20, "also", 1)))
        self.assertEqual(self.view.thing(20), thing("Book", title="q", year=7, state=None, writer=None, also=[2]))
        self.assertEqual(self.view.do(("delete", 2)), ([2], [1, 20]))
        self.assertIs(self.view.do(("undo",)), True)
        self.assertEqual(len(self.view.standing), 5)


class PictureTest(EditCase):
    def test_without_edits(self):
        picture = self.view.picture(self.picture)
        self.assertEqual(picture, PICTURE)
        picture[1].contents["also"].append(7)
        del picture[2]
        self.assertEqual(self.picture, PICTURE)

    def test_with_edits(self):
        self.view.put(1, "title", "z")
        self.view.make(20, "Author", {})
        self.view.delete(11)
        self.view.make(21, "Author", {})
        self.view.delete(21)
        wanted = picture_copy(PICTURE)
        wanted[1].contents["title"] = "z"
        wanted[20] = thing("Author", name=None)
        del wanted[11]
        self.assertEqual(self.seen(), wanted)

    def test_over_another_picture(self):
        self.view.put(1, "title", "z")
        self.view.delete(11)
        base = {5: thing("Author", name="q"), 1: thing("Book", title="n", year=9, state=None, writer=None, also=[])}
        found = self.view.picture(base)
        self.assertEqual(found, {5: base[5], 1: self.view.thing(1)})
        found[1].contents["also"].append(3)
        found[5].contents["name"] = "r"
        self.assertEqual(base[5].contents["name"], "q")
        self.assertEqual(base[1].contents["title"], "n")
        self.assertEqual(self.view.thing(1).contents["also"], PICTURE[1].contents["also"])


if __name__ == "__main__":
    unittest.main()
