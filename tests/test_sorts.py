import unittest

from oneheap.schemas.sorts import (
    ChoiceSort, IntSort, ListSort, RefSort, TextSort, blank, is_link, is_list, is_reference,
)

SHAPES = [
    IntSort(0, 5), TextSort(3), ChoiceSort(["a", "b"]), RefSort(["A"], "clears"), ListSort(["A"]),
]


class HoldsTest(unittest.TestCase):
    def test_none(self):
        self.assertEqual([shape.holds(None) for shape in SHAPES], [True, True, True, True, False])

    def test_truths_are_no_integers(self):
        for shape in SHAPES:
            self.assertIs(shape.holds(True), False)
            self.assertIs(shape.holds(False), False)

    def test_integers(self):
        shape = IntSort(-2, 5)
        self.assertEqual([shape.holds(value) for value in (-3, -2, 0, 5, 6)], [False, True, True, True, False])
        self.assertIs(shape.holds("0"), False)
        self.assertIs(IntSort(3, 3).holds(3), True)

    def test_texts(self):
        shape = TextSort(3)
        self.assertEqual([shape.holds(value) for value in ("", "abc", "abcd", 3)], [True, True, False, False])
        without = TextSort(3, "-")
        self.assertEqual([without.holds(value) for value in ("", "abc", "a-c", "-", "abcd")],
                         [True, True, False, False, False])

    def test_choices(self):
        shape = ChoiceSort(["a", "", "bc"])
        self.assertEqual([shape.holds(value) for value in ("a", "", "bc", "b", 1)], [True, True, True, False, False])

    def test_references_and_lists_hold_no_values(self):
        for value in (1, "a", 0):
            self.assertIs(RefSort(["A"], "takes").holds(value), False)
            self.assertIs(ListSort(["A"]).holds(value), False)


class WrittenTest(unittest.TestCase):
    def test_written(self):
        self.assertEqual(IntSort(-5, 10).written(), "int -5..10")
        self.assertEqual(TextSort(40).written(), "text 40")
        self.assertEqual(TextSort(40, "c").written(), 'text 40 without "c"')
        self.assertEqual(TextSort(1, '"').written(), 'text 1 without "\\""')
        self.assertEqual(ChoiceSort(["a"]).written(), 'one of "a"')
        self.assertEqual(ChoiceSort(["a", "b\\", ""]).written(), 'one of "a", "b\\\\", ""')
        self.assertEqual(RefSort(["A"], "clears").written(), "ref A")
        self.assertEqual(RefSort(["A", "B"], "takes").written(), "ref A or B takes")
        self.assertEqual(RefSort(["A"], "refuses").written(), "ref A refuses")
        self.assertEqual(ListSort(["A"]).written(), "list A")
        self.assertEqual(ListSort(["A", "B", "C"]).written(), "list A or B or C")


class EqualTest(unittest.TestCase):
    def test_between_classes(self):
        for at, one in enumerate(SHAPES):
            for other_at, other in enumerate(SHAPES):
                self.assertEqual(one == other, at == other_at)
            self.assertFalse(one == one.written())
            self.assertTrue(one != None)  # noqa: E711

    def test_within_a_class(self):
        self.assertEqual(IntSort(0, 5), IntSort(0, 5))
        self.assertNotEqual(IntSort(0, 5), IntSort(1, 5))
        self.assertNotEqual(IntSort(0, 5), IntSort(0, 6))
        self.assertEqual(TextSort(3), TextSort(3, None))
        self.assertNotEqual(TextSort(3), TextSort(4))
        self.assertNotEqual(TextSort(3), TextSort(3, "a"))
        self.assertNotEqual(TextSort(3, "b"), TextSort(3, "a"))
        self.assertEqual(ChoiceSort(["a", "b"]), ChoiceSort(["a", "b"]))
        self.assertNotEqual(ChoiceSort(["a", "b"]), ChoiceSort(["b", "a"]))
        self.assertEqual(RefSort(["A", "B"], "takes"), RefSort(["A", "B"], "takes"))
        self.assertNotEqual(RefSort(["A"], "takes"), RefSort(["A"], "clears"))
        self.assertNotEqual(RefSort(["A", "B"], "takes"), RefSort(["B", "A"], "takes"))
        self.assertEqual(ListSort(["A"]), ListSort(["A"]))
        self.assertNotEqual(ListSort(["A"]), ListSort(["B"]))


class LooksTest(unittest.TestCase):
    def test_sorts_of_shapes(self):
        self.assertEqual([is_link(shape) for shape in SHAPES], [False, False, False, True, True])
        self.assertEqual([is_list(shape) for shape in SHAPES], [False, False, False, False, True])
        self.assertEqual([is_reference(shape) for shape in SHAPES], [False, False, False, True, False])

    def test_blank(self):
        self.assertEqual([blank(shape) for shape in SHAPES], [None, None, None, None, []])
        self.assertIsNot(blank(SHAPES[4]), blank(SHAPES[4]))

    def test_fields_and_nothing_shared(self):
        names = ["A"]
        shapes = [ChoiceSort(names), RefSort(names, "clears"), ListSort(names)]
        names.append("B")
        self.assertEqual(shapes[0].choices, ["A"])
        self.assertEqual((shapes[1].kinds, shapes[1].rule), (["A"], "clears"))
        self.assertEqual(shapes[2].kinds, ["A"])
        self.assertEqual((IntSort(1, 2).low, IntSort(1, 2).high), (1, 2))
        self.assertEqual((TextSort(1).longest, TextSort(1).without), (1, None))


if __name__ == "__main__":
    unittest.main()
