"""Points [115] to [118]: company of calls, and reading ahead."""

import unittest

from helper import thing
from oneheap.objects.source import PictureSource
from oneheap.objects.view import View
from oneheap.queries.deeds import do
from oneheap.reading.company import answered, beside, prepare, read_ahead
from oneheap.reading.reader import Reader
from oneheap.schemas.reading import read_schema

SCHEMA = read_schema("kind A { n: int 0..99; r: ref A or B; l: list A or B; key n; } kind B { r: ref A; t: text 9; n: int 0..99; l: int 0..9; }")


def an_a(r=None, l=(), n=None):
    return thing("A", n=n, r=r, l=list(l))


def a_b(r=None):
    return thing("B", r=r, t=None, n=None, l=None)


PICTURE = {1: an_a(4, [2, 3, 9]), 2: an_a(5, [], 7), 3: an_a(4), 4: a_b(1), 5: a_b(None), 6: an_a(6, [1, 99]), 7: an_a(98), 8: an_a(None, [], 5)}


class CompanyCase(unittest.TestCase):
    def setUp(self):
        self.reader = Reader(PictureSource(PICTURE))
        self.view = View(SCHEMA, self.reader)

    def know(self, *numbers):
        for number in numbers:
            self.reader.thing(number)
        self.reader.take_requests()

    def requests(self):
        return [(request.what, request.numbers) for request in self.reader.take_requests()]

    def do(self, *deed):
        """Do a deed as a session does it; return what it returns."""
        prepare(self.reader, self.view, deed)
        amount = do(self.view, deed)
        answered(self.reader, self.view, deed, amount)
        return amount


class BesideTest(CompanyCase):
    def test_known_things_of_the_company(self):
        self.reader.together([3, 2, 1, 5, 8, 77])
        self.know(3)
        self.assertEqual(beside(self.reader, SCHEMA, 2, "r"), [4, 5])
        self.reader.together([2, 1, 3])
        self.assertEqual(beside(self.reader, SCHEMA, 1, "r"), [5, 4])
        self.assertEqual(self.requests(), [])

    def test_what_is_not_known_is_left_out(self):
        self.know(2, 3)
        self.reader.together([1, 2, 3])
        self.assertEqual(beside(self.reader, SCHEMA, 1, "r"), [5, 4])
        self.assertEqual(beside(self.reader, SCHEMA, 6, "r"), [])
        self.assertEqual(self.requests(), [])

    def test_references_alone_count(self):
        self.reader.together([1, 4, 2])
        self.know(1)
        self.assertEqual(beside(self.reader, SCHEMA, 1, "l"), [])
        self.assertEqual(beside(self.reader, SCHEMA, 1, "n"), [])
        self.assertEqual(beside(self.reader, SCHEMA, 1, "t"), [])
        self.assertEqual(beside(self.reader, SCHEMA, 4, "r"), [4, 1, 5])

    def test_contents_count_whether_told_or_not(self):
        self.know(7)
        self.assertEqual(beside(self.reader, SCHEMA, 7, "r"), [98])

    def test_edits_do_not_count(self):
        self.know(3)
        self.view.put(3, "r", 5)
        self.assertEqual(beside(self.reader, SCHEMA, 3, "r"), [4])


class PrepareTest(CompanyCase):
    def prepare(self, *deed):
        self.assertIsNone(prepare(self.reader, self.view, deed))
        return self.requests()

    def test_told(self):
        self.reader.together([1, 2, 8])
        self.assertEqual(self.prepare("told", 1, "r"), [("object", [1, 2, 8])])
        self.assertEqual(self.reader.company(4), [4, 5])
        self.assertFalse(self.reader.knows(4))

    def test_told_of_a_field_without_numbers(self):
        self.assertEqual(self.prepare("told", 1, "n"), [("object", [1])])
        self.assertEqual(self.prepare("told", 8, "r"), [("object", [8])])
        self.assertEqual(self.reader.known_count(), 2)

    def test_told_of_what_is_not_there(self):
        self.assertEqual(self.prepare("told", 77, "r"), [("object", [77])])
        self.assertEqual(self.prepare("told", 1, "none"), [("object", [1])])
        self.assertEqual(self.reader.known_count(), 2)

    def test_told_of_what_was_edited(self):
        self.view.put(1, "r", 5)
        self.reader.forget()
        self.reader.take_requests()
        self.assertEqual(self.prepare("told", 1, "r"), [])
        self.assertEqual(self.reader.known_count(), 0)

    def test_listed(self):
        self.assertEqual(self.prepare("listed", 1, "l"), [("object", [1])])
        self.assertEqual(self.reader.company(3), [2, 3, 9])
        self.assertEqual(self.reader.company(1), [1])

    def test_listed_tells_the_views_list(self):
        self.view.unlink(1, "l", 2)
        self.reader.forget()
        self.reader.take_requests()
        self.assertEqual(self.prepare("listed", 1, "l"), [])
        self.assertEqual(self.reader.company(3), [3, 9])

    def test_listed_of_other_fields(self):
        self.assertEqual(self.prepare("listed", 8, "l"), [("object", [8])])
        self.assertEqual(self.prepare("listed", 1, "r"), [("object", [1])])
        self.assertEqual(self.prepare("listed", 4, "l"), [("object", [4])])
        self.assertEqual(self.prepare("listed", 5, "none"), [("object", [5])])
        self.assertEqual(self.prepare("listed", 77, "l"), [("object", [77])])
        self.assertEqual(self.reader.known_count(), 5)

    def test_other_deeds(self):
        for deed in (("there", 1), ("kind_of", 1), ("look_up", "A", ("n",), (7,)), ("referred", 1, "A", "l"), ("make", 70, "A", {}), ("put", 1, "n", 2),
                     ("link", 1, "l", 2, None), ("unlink", 1, "l", 2), ("delete", 1), ("undo",), ("query", "from A o give o", {})):
            self.assertEqual(self.prepare(*deed), [])
        self.assertEqual(self.reader.known_count(), 0)


class AnsweredTest(CompanyCase):
    def answered(self, answer, *deed):
        self.assertIsNone(answered(self.reader, self.view, deed, answer))

    def test_told_among_those_beside(self):
        self.reader.together([1, 2, 3])
        self.know(1)
        self.answered(4, "told", 1, "r")
        self.assertEqual([self.reader.company(number) for number in (4, 5, 1)], [[4, 5], [4, 5], [1, 2, 3]])

    def test_told_otherwise(self):
        self.know(1, 2)
        self.reader.together([1, 2])
        self.reader.together([4, 6])
        self.view.put(1, "r", 6)
        self.answered(6, "told", 1, "r")
        self.assertEqual([self.reader.company(number) for number in (4, 5, 6)], [[4, 6], [5], [6]])

    def test_told_of_other_fields(self):
        self.know(2, 8)
        count = self.reader.known_count()
        self.answered(7, "told", 2, "n")
        self.answered(None, "told", 8, "r")
        self.assertEqual(self.reader.known_count(), count)

    def test_listed_referred_and_others(self):
        self.answered([3, 2], "listed", 1, "l")
        self.assertEqual(self.reader.company(2), [3, 2])
        self.answered([1, 6], "referred", 3, "A", "l")
        self.assertEqual(self.reader.company(6), [1, 6])
        self.answered(2, "look_up", "A", ("n",), (7,))
        self.assertEqual([self.reader.company(number) for number in (2, 3)], [[2], [3, 2]])
        self.answered(None, "make", 1, "A", {})
        self.assertEqual(self.reader.company(1), [1])
        count = self.reader.known_count()
        for answer, deed in (([], ("listed", 1, "l")), ([], ("referred", 1, "A", "l")), (None, ("look_up", "A", ("n",), (1,))), (True, ("there", 1)),
                             ("A", ("kind_of", 1)), (None, ("put", 1, "r", 2)), (None, ("link", 1, "l", 2, None)), (None, ("unlink", 1, "l", 2)),
                             (([1], [2, 3]), ("delete", 1)), (True, ("undo",))):
            self.answered(answer, *deed)
        self.assertEqual(self.reader.known_count(), count)

    def test_the_columns_of_a_query(self):
        answer = [[1, 7, 4, "x"], [2, 8, None, "y"], [1, 9, 5, "z"]]
        self.answered(answer, "query", "from A o give o, o.n, o.r, \"x\"", {})
        self.assertEqual([self.reader.company(number) for number in (1, 2, 4, 5, 7)], [[1, 2], [1, 2], [4, 5], [4, 5], [7]])
        self.answered([[1, 2], [3, 1]], "query", "from A o give o.r, o", {})
        self.assertEqual([self.reader.company(number) for number in (1, 2, 3)], [[2, 1], [2, 1], [1, 3]])
        count = self.reader.known_count()
        self.answered([[None], [None]], "query", "from A o give o.r", {})
        self.answered([], "query", "from A o give o.r", {})
        self.answered([[6]], "query", "from A o give o.n", {})
        self.assertEqual(self.reader.known_count(), count)


class DeedsTest(CompanyCase):
    """What the deeds of a session read, one after the other."""

    def test_told_of_what_was_listed(self):
        self.assertEqual(self.do("listed", 1, "l"), [2, 3])
        self.assertEqual(self.requests(), [("object", [1]), ("object", [2, 3, 9])])
        self.assertEqual(self.do("told", 3, "r"), 4)
        self.assertEqual(self.requests(), [("object", [4, 5])])
        self.assertEqual(self.do("told", 2, "r"), 5)
        self.assertEqual(self.do("told", 4, "t"), None)
        self.assertEqual(self.requests(), [])

    def test_referred_and_queries(self):
        self.assertEqual(self.do("referred", 4, "A", "r"), [1, 3])
        self.assertEqual(self.requests(), [("object", [4]), ("referrers A.r", [4])])
        self.assertEqual(self.do("told", 3, "n"), None)
        self.assertEqual(self.requests(), [("object", [1, 3])])
        self.assertEqual(self.do("query", "from A o where o.n = 7 give o", {}), [[2]])
        self.assertEqual(self.reader.company(2), [2])
        self.assertEqual(self.requests()[0], ("alike A n", []))


class ReadAheadTest(CompanyCase):
    def ahead(self, numbers, *paths):
        self.assertIsNone(read_ahead(self.reader, SCHEMA, numbers, [list(path) for path in paths]))
        return self.requests()

    def test_numbers(self):
        self.assertEqual(self.ahead([3, 1, 3, 77]), [("object", [1, 3, 77])])
        self.assertEqual(self.reader.company(1), [3, 1, 77])

    def test_no_numbers(self):
        self.assertEqual(self.ahead([], ["r"]), [])
        self.assertEqual(self.reader.known_count(), 0)

    def test_known_numbers(self):
        self.know(1, 2)
        self.assertEqual(self.ahead([2, 1]), [])
        self.assertEqual(self.ahead([3, 2, 1, 4]), [("object", [3, 4])])
        self.assertEqual(self.reader.company(2), [3, 2, 1, 4])

    def test_more_than_ten(self):
        self.know(5)
        self.assertEqual(self.ahead(list(range(25, 0, -1))), [("object", [1, 2, 3, 4, 6, 7, 8, 9, 10, 11]), ("object", list(range(12, 22))),
                                                              ("object", [22, 23, 24, 25])])

    def test_a_path_of_references(self):
        self.assertEqual(self.ahead([2, 1], ["r", "r", "r"]), [("object", [1, 2]), ("object", [4, 5])])
        self.assertEqual([self.reader.company(number) for number in (2, 4, 1)], [[2, 1], [4], [1]])

    def test_lists_and_references(self):
        self.assertEqual(self.ahead([1, 6], ["l", "r"]), [("object", [1, 6]), ("object", [2, 3, 9, 99]), ("object", [4, 5])])
        self.assertEqual(self.reader.company(1), [2, 3, 9, 1, 99])
        self.assertEqual(self.reader.company(4), [5, 4])

    def test_several_paths_begin_at_the_numbers(self):
        self.assertEqual(self.ahead([1], ["r"], ["l"], []), [("object", [1]), ("object", [4]), ("object", [2, 3, 9])])

    def test_fields_that_some_kinds_do_not_have(self):
        self.assertEqual(self.ahead([1, 4], ["t", "r"]), [("object", [1, 4])])
        self.assertEqual(self.ahead([1, 4], ["none"]), [])
        # The l of 4 is no list, and its content is no number of an object.
        self.assertEqual(self.ahead([4, 1], ["l"]), [("object", [2, 3, 9])])

    def test_plain_fields_in_a_path(self):
        self.assertEqual(self.ahead([2], ["n"], ["n", "r"], ["r", "n"]), [("object", [2]), ("object", [5])])
        self.assertFalse(self.reader.knows(7))

    def test_edits_do_not_count(self):
        self.view.put(3, "r", 5)
        self.reader.forget()
        self.reader.take_requests()
        self.assertEqual(self.ahead([3], ["r"]), [("object", [3]), ("object", [4])])

    def test_nothing_is_changed(self):
        numbers, paths = [1], [["r", "r"]]
        read_ahead(self.reader, SCHEMA, numbers, paths)
        self.assertEqual((numbers, paths), ([1], [["r", "r"]]))


if __name__ == "__main__":
    unittest.main()
