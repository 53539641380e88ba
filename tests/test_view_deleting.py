"""Points [48] to [50]: deletions."""

import unittest

from helper import thing
from oneheap.errors import NoSuchObject
from oneheap.objects.source import PictureSource
from oneheap.objects.thing import picture_copy
from oneheap.objects.view import Refusing, View
from oneheap.schemas.reading import read_schema

SCHEMA = read_schema(
    "kind Node { n: int 0..9; up: ref Node takes; side: ref Leaf; hold: ref Node or Leaf refuses; keep: ref Leaf refuses; "
    "each: list Node; few: list Leaf; } kind Leaf { home: ref Node takes; }"
)
NODE = {"n": None, "up": None, "side": None, "hold": None, "keep": None, "each": [], "few": []}


def node(**contents):
    return thing("Node", **{**NODE, **contents})


def leaf(home=None):
    return thing("Leaf", home=home)


class DeleteTest(unittest.TestCase):
    def check(self, picture, number, answer, changes):
        """Check what deleting an object returns, and what comes of the objects that are changed."""
        base = picture_copy(picture)
        view = View(SCHEMA, PictureSource(base))
        self.assertEqual(view.delete(number), answer)
        wanted = {one: changes.get(one, told) for one, told in picture.items() if changes.get(one, told) is not None}
        self.assertEqual(view.picture(base), wanted)
        self.assertEqual(base, picture)
        self.assertEqual(view.standing, [] if isinstance(answer, Refusing) else [("delete", number)])
        if not isinstance(answer, Refusing):
            self.assertIs(view.undo(), True)
            self.assertEqual(view.picture(base), picture)

    def test_alone(self):
        self.check({1: node(), 2: node()}, 1, ([1], []), {1: None})
        view = View(SCHEMA, PictureSource({}))
        self.assertRaises(NoSuchObject, view.delete, 1)
        self.assertEqual(view.standing, [])

    def test_taken_along(self):
        picture = {5: node(), 1: node(up=5), 7: node(up=1), 3: leaf(home=7), 2: node(up=3), 4: leaf(home=5)}
        self.check(picture, 5, ([5, 1, 3, 4, 7], []), {5: None, 1: None, 7: None, 3: None, 4: None})
        self.check(picture, 7, ([7, 3], []), {7: None, 3: None})
        # The reference of 2 tells no leaf.
        self.check(picture, 3, ([3], []), {3: None})

    def test_taken_along_in_rings(self):
        self.check({1: node(up=1), 2: node()}, 1, ([1], []), {1: None})
        ring = {3: node(up=1), 1: node(up=2), 2: node(up=3), 4: node(up=9)}
        self.check(ring, 2, ([2, 1, 3], []), {1: None, 2: None, 3: None})

    def test_what_goes_is_told_ascending(self):
        picture = {3: node(), 8: node(up=3), 1: leaf(home=8), 16: node(up=3)}
        self.check(picture, 3, ([3, 1, 8, 16], []), {3: None, 8: None, 1: None, 16: None})

    def test_the_deleted_object_is_told_first(self):
        self.check({1: node(up=9), 9: node(), 4: node(up=9)}, 9, ([9, 1, 4], []), {1: None, 9: None, 4: None})

    def test_refused(self):
        self.check({1: node(), 2: node(hold=1)}, 1, Refusing(2, "hold"), {})
        self.check({1: node(), 3: node(hold=1), 2: node(hold=1)}, 1, Refusing(2, "hold"), {})
        self.check({1: leaf(), 2: node(keep=1, hold=1)}, 1, Refusing(2, "hold"), {})
        self.check({1: leaf(), 2: node(keep=1)}, 1, Refusing(2, "keep"), {})
        self.check({1: leaf(), 2: node(side=1, keep=1, few=[1], n=1)}, 1, Refusing(2, "keep"), {})
        self.check({3: node(), 8: node(hold=3), 1: node(hold=3)}, 3, Refusing(1, "hold"), {})

    def test_refused_by_what_tells_an_object_that_is_taken_along(self):
        self.check({1: node(), 4: node(up=1), 5: leaf(home=4), 7: node(hold=4), 6: node(keep=5)}, 1, Refusing(6, "keep"), {})

    def test_what_goes_does_not_refuse(self):
        self.check({1: node(hold=1)}, 1, ([1], []), {1: None})
        self.check({1: node(), 2: node(up=1, hold=1)}, 1, ([1, 2], []), {1: None, 2: None})
        self.check({1: node(hold=2), 2: node(up=1)}, 1, ([1, 2], []), {1: None, 2: None})

    def test_numbers_that_are_not_told_do_not_refuse_and_are_not_taken_along(self):
        # A node is none of the leaves that "keep" and "side" refer to, and a leaf none of the nodes of "up" and "each".
        self.check({1: node(), 2: node(keep=1, side=1)}, 1, ([1], []), {1: None})
        self.check({1: leaf(), 2: node(up=1, each=[1])}, 1, ([1], []), {1: None})

    def test_cleared_references(self):
        self.check({1: leaf(), 2: node(side=1), 3: node(side=4), 4: leaf()}, 1, ([1], [2]), {1: None, 2: node()})
        self.check({1: leaf(), 2: node(n=1, side=1, keep=4), 4: leaf()}, 1, ([1], [2]), {1: None, 2: node(n=1, keep=4)})
        self.check({3: leaf(), 8: node(side=3), 1: node(side=3)}, 3, ([3], [1, 8]), {3: None, 8: node(), 1: node()})

    def test_cleared_lists(self):
        self.check({1: node(), 2: node(each=[3, 1, 2]), 3: node(each=[1])}, 1, ([1], [2, 3]),
                   {1: None, 2: node(each=[3, 2]), 3: node()})

    def test_several_fields_of_one_object(self):
        self.check({1: node(), 5: leaf(home=1), 2: node(side=5, each=[2, 1], few=[5, 6]), 6: leaf()}, 1, ([1, 5], [2]),
                   {1: None, 5: None, 2: node(each=[2], few=[6])})

    def test_numbers_that_are_not_told_go_from_what_is_cleared(self):
        # The list of 2 tells 1 and holds 5 without telling it; the list of 3 tells none that goes.
        picture = {1: node(), 5: leaf(home=1), 2: node(each=[5, 1, 9]), 3: node(each=[5, 2])}
        self.check(picture, 1, ([1, 5], [2]), {1: None, 5: None, 2: node(each=[9])})

    def test_what_goes_is_not_cleared(self):
        self.check({1: node(each=[1, 2]), 2: node(up=1, each=[1], side=None)}, 1, ([1, 2], []), {1: None, 2: None})

    def test_cleared_objects_are_told_once_ascending(self):
        picture = {1: leaf(), 9: node(side=1, few=[1]), 3: node(few=[1]), 5: node(side=1)}
        self.check(picture, 1, ([1], [3, 5, 9]), {1: None, 9: node(), 3: node(), 5: node()})

    def test_edits_count(self):
        picture = {1: node(), 2: node(hold=1), 3: node(up=1), 4: node(each=[1])}
        view = View(SCHEMA, PictureSource(picture))
        view.put(2, "hold", None)
        view.put(3, "up", None)
        view.make(20, "Leaf", {"home": 1})
        view.link(3, "few", 20)
        view.unlink(4, "each", 1)
        self.assertEqual(view.delete(1), ([1, 20], [3]))
        self.assertEqual(view.picture(picture), {2: node(), 3: node(), 4: node()})
        self.assertRaises(NoSuchObject, view.delete, 1)
        self.assertRaises(NoSuchObject, view.delete, 20)

    def test_refusing(self):
        one = Refusing(3, "a")
        self.assertEqual((one.number, one.field), (3, "a"))
        self.assertTrue(one == Refusing(3, "a"))
        for other in (Refusing(4, "a"), Refusing(3, "b"), (3, "a"), None):
            self.assertFalse(one == other)


if __name__ == "__main__":
    unittest.main()
