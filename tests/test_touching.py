"""Points [51] and [52]: what the edits of a view touched."""

import unittest

from helper import thing
from oneheap.errors import ValueDoesNotFit
from oneheap.objects.source import PictureSource
from oneheap.objects.touching import Touch, touched
from oneheap.objects.view import Refusing, View
from oneheap.schemas.reading import read_schema

SCHEMA = read_schema("kind A { n: int 0..9; r: ref A; s: ref A; l: list A; hold: ref A refuses; up: ref A takes; } kind B { }")
NAMES = ["n", "r", "s", "l", "hold", "up"]


def blank(**contents):
    return thing("A", **{**{"n": None, "r": None, "s": None, "l": [], "hold": None, "up": None}, **contents})


class TouchTest(unittest.TestCase):
    def test_fields(self):
        names = ["a"]
        touch = Touch(3, True, False, names)
        names.append("b")
        self.assertEqual((touch.number, touch.made, touch.gone, touch.names), (3, True, False, ["a"]))

    def test_equal(self):
        one = Touch(3, True, False, ["a", "b"])
        self.assertTrue(one == Touch(3, True, False, ("a", "b")))
        for other in (Touch(4, True, False, ["a", "b"]), Touch(3, False, False, ["a", "b"]), Touch(3, True, True, ["a", "b"]),
                      Touch(3, True, False, ["b", "a"]), Touch(3, True, False, []), None, 3, (3, True, False, ["a", "b"])):
            self.assertFalse(one == other)


class TouchedTest(unittest.TestCase):
    def setUp(self):
        self.view = View(SCHEMA, PictureSource({1: blank(l=[2, 3]), 2: blank(r=3), 3: blank(), 4: blank(), 5: thing("B")}))

    def check(self, *rows):
        self.assertEqual([(one.number, one.made, one.gone, one.names) for one in touched(self.view)], list(rows))

    def test_nothing(self):
        self.check()
        self.view.told(1, "n")
        self.check()

    def test_made(self):
        self.view.make(9, "A", {"s": 1, "n": 2})
        self.view.make(8, "B", {})
        self.check((8, True, False, []), (9, True, False, NAMES))
        self.view.put(1, "n", 2)
        self.check((1, False, False, ["n"]), (8, True, False, []), (9, True, False, NAMES))

    def test_made_and_changed(self):
        self.view.make(9, "A", {})
        self.view.put(9, "up", 1)
        self.view.link(9, "l", 1)
        self.check((9, True, False, NAMES))

    def test_names_each_once_in_the_order_in_which_they_came_first(self):
        self.view.put(1, "s", 2)
        self.view.link(1, "l", 4)
        self.view.put(1, "n", 2)
        self.view.put(1, "s", 3)
        self.view.unlink(1, "l", 4)
        self.view.put(1, "r", None)
        self.check((1, False, False, ["s", "l", "n", "r"]))

    def test_contents_that_do_not_change_count(self):
        self.view.put(1, "n", None)
        self.view.link(2, "l", 2)
        self.view.undo()
        self.view.link(1, "l", 2)
        self.view.unlink(3, "l", 1)
        self.check((1, False, False, ["n", "l"]), (3, False, False, ["l"]))

    def test_deleted_and_cleared(self):
        self.view.put(1, "n", 4)
        self.view.put(2, "n", 4)
        self.view.delete(3)
        self.check((1, False, False, ["n", "l"]), (2, False, False, ["n", "r"]), (3, False, True, []))
        self.view.delete(2)
        self.check((1, False, False, ["n", "l"]), (2, False, True, []), (3, False, True, []))

    def test_several_cleared_fields_of_one_object_stand_in_the_order_of_the_schema(self):
        self.view.put(4, "s", 3)
        self.view.put(4, "r", 3)
        self.view.link(4, "l", 3)
        view = View(SCHEMA, PictureSource(self.view.picture({number: self.view.thing(number) for number in (1, 2, 3, 4, 5)})))
        view.delete(3)
        self.view = view
        self.check((1, False, False, ["l"]), (2, False, False, ["r"]), (3, False, True, []), (4, False, False, ["r", "s", "l"]))

    def test_taken_along(self):
        self.view.put(4, "up", 3)
        self.view.put(1, "up", 4)
        self.view.delete(3)
        self.check((1, False, True, []), (2, False, False, ["r"]), (3, False, True, []), (4, False, True, []))

    def test_made_and_deleted(self):
        self.view.make(9, "A", {})
        self.view.link(1, "l", 9)
        self.view.delete(9)
        self.check((1, False, False, ["l"]))

    def test_deleted_and_made_again(self):
        self.view.delete(5)
        self.view.make(5, "A", {})
        self.view.put(5, "n", 1)
        self.check()

    def test_refused_and_raised_edits(self):
        self.view.put(4, "hold", 3)
        self.assertEqual(self.view.delete(3), Refusing(4, "hold"))
        self.assertRaises(ValueDoesNotFit, self.view.put, 1, "n", 10)
        self.check((4, False, False, ["hold"]))

    def test_undone_edits(self):
        self.view.put(1, "n", 4)
        self.view.put(1, "s", 2)
        self.view.undo()
        self.view.delete(3)
        self.view.undo()
        self.view.make(9, "A", {})
        self.view.undo()
        self.check((1, False, False, ["n"]))
        self.view.undo()
        self.check()

    def test_a_deletion_that_is_undone_leaves_the_made_object(self):
        self.view.make(9, "B", {})
        self.view.delete(9)
        self.view.undo()
        self.check((9, True, False, []))

    def test_the_view_does_not_change(self):
        self.view.put(1, "n", 4)
        self.view.delete(3)
        standing, picture = list(self.view.standing), self.view.picture({1: blank(), 3: blank()})
        touched(self.view)
        self.assertEqual((self.view.standing, self.view.picture({1: blank(), 3: blank()})), (standing, picture))

    def test_what_is_returned_is_not_shared(self):
        self.view.put(1, "n", 4)
        touched(self.view)[0].names.append("q")
        self.check((1, False, False, ["n"]))


if __name__ == "__main__":
    unittest.main()
