"""Points [104] to [106]: lines, groups, order, skip and first, parameters, and how many lines there may be."""

import unittest

from helper import thing
from oneheap.errors import Fault, HeapError, NoParameter, TooManyLines, WrongParameter
from oneheap.objects.source import PictureSource
from oneheap.objects.view import View
from oneheap.queries.deeds import answer_query, do, object_columns_of
from oneheap.queries.lines import check_parameters, lines_by
from oneheap.queries.reading import read_query
from oneheap.schemas.reading import read_schema

SCHEMA = read_schema("kind A { n: int 0..99; t: text 9; r: ref A; l: list A; } kind B { n: int 0..99; }")


def an_a(n=None, t=None, r=None, l=()):
    return thing("A", n=n, t=t, r=r, l=list(l))


PICTURE = {
    12: an_a(3, "x", 5), 5: an_a(1, "y", None, [12, 7]), 7: an_a(None, "x", 5), 9: thing("B", n=3), 3: an_a(3, None, 12),
    20: an_a(None, None, 99), 8: an_a(1, "X", 12),
}


def ask(text, parameters=None, picture=None):
    return answer_query(View(SCHEMA, PictureSource(PICTURE if picture is None else picture)), text, parameters or {})


class LinesTest(unittest.TestCase):
    def test_lines_of_objects(self):
        self.assertEqual(ask("from A o give o"), [[3], [5], [7], [8], [12], [20]])
        self.assertEqual(ask("from B o give o.n, o, o.n + 1"), [[3, 9, 4]])
        self.assertEqual(ask('from A o where o.t = "x" give o, o.r.t'), [[7, "y"], [12, "y"]])
        self.assertEqual(ask("from A o where 1 = 2 give o"), [])

    def test_numbers_that_are_looked_at(self):
        view = View(SCHEMA, PictureSource(PICTURE))
        query = read_query(SCHEMA, "from A o where o.n = :p give o")
        for numbers, wanted in (([3, 12], [[3], [12]]), ([12, 3, 12], [[3], [12]]), ([9, 12, 77], [[12]]), ([], []), ([7, 8], [])):
            self.assertEqual(lines_by(view, query, {"p": 3}, numbers), wanted)

    def test_edits_count(self):
        view = View(SCHEMA, PictureSource(PICTURE))
        view.make(2, "A", {"n": 4})
        view.delete(5)
        view.put(3, "n", 7)
        self.assertEqual(answer_query(view, "from A o give o, o.n, o.r", {}),
                         [[2, 4, None], [3, 7, 12], [7, None, None], [8, 1, 12], [12, 3, None], [20, None, None]])

    def test_nothing_is_shared(self):
        view = View(SCHEMA, PictureSource(PICTURE))
        parameters = {"p": 3}
        lines = answer_query(view, "from A o where o.n = :p give o", parameters)
        lines[0].append(1)
        lines.append(2)
        self.assertEqual(answer_query(view, "from A o where o.n = :p give o", parameters), [[3], [12]])
        self.assertEqual(parameters, {"p": 3})


class GroupsTest(unittest.TestCase):
    def test_group_by(self):
        self.assertEqual(ask("from A o group by o.n give o.n, count()"), [[3, 2], [1, 2], [None, 2]])
        self.assertEqual(ask("from A o group by o.t give o.t, count(), least(o.n), sum(o.n)"),
                         [[None, 2, 3, 3], ["y", 1, 1, 1], ["x", 2, 3, 3], ["X", 1, 1, 1]])

    def test_several_paths(self):
        self.assertEqual(ask("from A o group by o.n, o.r.t give o.r.t, o.n, count()"),
                         [["x", 3, 1], [None, 1, 1], ["y", None, 1], ["x", 1, 1], ["y", 3, 1], [None, None, 1]])

    def test_paths_to_objects(self):
        self.assertEqual(ask("from A o group by o.r give o.r, count(), sum(o.n)"), [[12, 2, 4], [None, 2, 1], [5, 2, 3]])
        self.assertEqual(ask("from A o where o.n = 3 group by o give o"), [[3], [12]])
        self.assertEqual(ask("from A o group by o.r.r give o.r.r, count()"), [[5, 2], [None, 4]])

    def test_totals_of_groups_may_have_any_fields(self):
        self.assertEqual(ask("from A o group by o.n give greatest(o.r.t), least(o.t)"), [["y", "x"], ["x", "X"], ["y", "x"]])

    def test_group_by_of_nothing(self):
        self.assertEqual(ask("from A o where o.n = 50 group by o.n give count()"), [])

    def test_group_all(self):
        self.assertEqual(ask("from A o group all give count(), sum(o.n), least(o.t), greatest(o.n)"), [[6, 8, "X", 3]])
        self.assertEqual(ask("from A o where o.n = 1 group all give count(), least(o.r.n)"), [[2, 3]])

    def test_group_all_of_nothing(self):
        self.assertEqual(ask("from A o where o.n = 50 group all give count(), sum(o.n), least(o.t), greatest(o.n), 7"), [[0, 0, None, None, 7]])
        self.assertEqual(ask("from B o group all give count()", {}, {}), [[0]])

    def test_sums_of_groups_beyond_the_bounds(self):
        schema = read_schema("kind A { n: int -1000000000..1000000000; }")
        text = "from A o group all give sum(o.n) * 1000, sum(o.n)"
        for many, wanted in ((1, 10 ** 12), (2, None)):
            picture = {number: thing("A", n=10 ** 9) for number in range(1, many + 1)}
            self.assertEqual(answer_query(View(schema, PictureSource(picture)), text, {}), [[wanted, many * 10 ** 9]])


class OrderTest(unittest.TestCase):
    def test_up_and_down_with_none(self):
        self.assertEqual(ask("from A o order by o.n give o"), [[7], [20], [5], [8], [3], [12]])
        self.assertEqual(ask("from A o order by o.n down give o"), [[3], [12], [5], [8], [7], [20]])
        self.assertEqual(ask("from A o order by o.t give o"), [[3], [20], [8], [7], [12], [5]])
        self.assertEqual(ask("from A o order by o.t down give o"), [[5], [7], [12], [8], [3], [20]])

    def test_several_terms(self):
        self.assertEqual(ask("from A o order by o.n down, o.t give o"), [[3], [12], [8], [5], [20], [7]])
        self.assertEqual(ask("from A o order by o.n, o.t down give o"), [[7], [20], [5], [8], [12], [3]])
        self.assertEqual(ask("from A o order by o.n, o.t, o down give o.n"), [[None], [None], [1], [1], [3], [3]])

    def test_objects_are_sorted_by_numbers(self):
        self.assertEqual(ask("from A o order by o down give o"), [[20], [12], [8], [7], [5], [3]])
        self.assertEqual(ask("from A o order by o.r give o"), [[5], [20], [7], [12], [3], [8]])

    def test_ties_stay(self):
        self.assertEqual(ask("from A o order by 1 give o"), [[3], [5], [7], [8], [12], [20]])
        self.assertEqual(ask("from A o order by 1 down, o.n * 0 down give o"), [[3], [5], [8], [12], [7], [20]])

    def test_order_of_groups(self):
        self.assertEqual(ask("from A o group by o.n order by count(), o.n down give o.n"), [[3], [1], [None]])
        self.assertEqual(ask("from A o group by o.t order by sum(o.n) down, o.t give o.t"), [[None], ["x"], ["X"], ["y"]])


class BoundsTest(unittest.TestCase):
    def test_skip_and_first(self):
        for ending, wanted in (("skip 2", [7, 8, 12, 20]), ("first 2", [3, 5]), ("skip 1 first 2", [5, 7]), ("first 0", []), ("skip 0", [3, 5, 7, 8, 12, 20]),
                               ("skip 5 first 5", [20]), ("skip 6", []), ("skip 1000000000000 first 1000000000000", [])):
            self.assertEqual([line[0] for line in ask(f"from A o give o {ending}")], wanted, ending)

    def test_parameters(self):
        self.assertEqual(ask("from A o give o skip :s first :f", {"s": 1, "f": 2}), [[5], [7]])
        self.assertEqual(ask("from A o give o skip :s first :s", {"s": 2}), [[7], [8]])
        self.assertEqual(ask("from A o give o skip :s first :f", {"s": 0, "f": 100}), [[3], [5], [7], [8], [12], [20]])
        self.assertEqual(ask("from A o give o first :f", {"f": 0}), [])

    def test_behind_the_order(self):
        self.assertEqual(ask("from A o order by o.n down give o skip 1 first 2"), [[12], [5]])

    def test_too_many_lines(self):
        picture = {number: thing("B", n=number) for number in range(1, 22)}
        self.assertEqual(len(ask("from B o give o first 20", {}, picture)), 20)
        self.assertEqual(len(ask("from B o give o skip 1", {}, picture)), 20)
        self.assertEqual(len(ask("from B o where o.n != 5 give o", {}, picture)), 20)
        for text in ("from B o give o", "from B o give o first 21", "from B o group by o.n give o.n", "from B o give 1 skip 0"):
            with self.assertRaises(TooManyLines):
                ask(text, {}, picture)
        self.assertEqual(ask("from B o group all give count()", {}, picture), [[21]])
        view = View(SCHEMA, PictureSource(picture))
        self.assertEqual(len(lines_by(view, read_query(SCHEMA, "from B o give o"), {}, list(range(1, 22)))), 21)


class ParametersTest(unittest.TestCase):
    def check(self, text, parameters, wrong=None, missing=None):
        query = read_query(SCHEMA, text)
        if wrong is None and missing is None:
            self.assertIsNone(check_parameters(query, parameters))
            return
        with self.assertRaises(WrongParameter if missing is None else NoParameter) as caught:
            check_parameters(query, parameters)
        self.assertEqual(caught.exception.name, missing if wrong is None else wrong)
        self.assertIsInstance(caught.exception, HeapError)
        with self.assertRaises(WrongParameter if missing is None else NoParameter):
            ask(text, parameters)

    def test_integers(self):
        text = "from A o where o.n = :p give o"
        for value in (None, 0, -5, 10 ** 20):
            self.check(text, {"p": value})
        for value in ("", "5"):
            self.check(text, {"p": value}, "p")
        self.check(text, {}, None, "p")

    def test_texts(self):
        text = "from A o where o.t starts :p give o"
        for value in (None, "", "a"):
            self.check(text, {"p": value})
        self.check(text, {"p": 5}, "p")
        self.check(text, {"q": "a"}, None, "p")

    def test_objects(self):
        text = "from A o where o.r = :p give o"
        for value in (None, 1, 12, 5000):
            self.check(text, {"p": value})
        for value in (0, -1, "1"):
            self.check(text, {"p": value}, "p")

    def test_skip_and_first(self):
        for word in ("skip", "first"):
            text = f"from A o give o {word} :p"
            for value in (0, 1, 100):
                self.check(text, {"p": value})
            for value in (None, -1, 101, "1"):
                self.check(text, {"p": value}, "p")
            self.check(text, {}, None, "p")

    def test_a_parameter_in_both(self):
        text = "from A o where o.n = :p give o first :p"
        self.check(text, {"p": 3})
        for value in (None, 101, -1):
            self.check(text, {"p": value}, "p")

    def test_the_first_one_in_the_text(self):
        text = "from A o where o.n + :a = :b and some x in o.l (x.t = :c) order by o.n * :d, :e + o.n give o.n - :f skip :g first :h"
        right = {"a": 1, "b": 2, "c": "x", "d": 3, "e": 4, "f": 5, "g": 6, "h": 7}
        self.check(text, right)
        names = "abcdefgh"
        for place, name in enumerate(names):
            missing = {one: right[one] for one in right if one < name}
            self.check(text, missing, None, name)
            wrong = {one: right[one] if one < name else 5 if one == "c" else "no" for one in right}
            self.check(text, wrong, name)
            mixed = dict(wrong)
            del mixed[names[-1]]
            self.check(text, mixed, name if place < 7 else None, None if place < 7 else "h")

    def test_the_first_place_of_a_parameter_counts(self):
        self.check("from A o where :b = o.n and :a = o.n and :b = 1 give o", {}, None, "b")
        self.check("from A o where o.n in (:b, :a) give o", {}, None, "b")
        self.check("from A o where o.n = -:b + :a give o", {}, None, "b")

    def test_more_parameters_than_asked_for(self):
        self.check("from A o give o", {"p": "x"})

    def test_order_of_errors(self):
        with self.assertRaises(Fault):
            ask("from A o where o.n = :p give", {})
        picture = {number: thing("B", n=number) for number in range(1, 22)}
        with self.assertRaises(NoParameter):
            ask("from B o where o.n != :p give o", {}, picture)
        with self.assertRaises(WrongParameter):
            ask("from B o where o.n != :p give o", {"p": "x"}, picture)
        with self.assertRaises(TooManyLines):
            ask("from B o where o.n != :p give o", {"p": 0}, picture)


class DeedsTest(unittest.TestCase):
    def test_object_columns(self):
        for text, wanted in (("from A o give o", [0]), ("from A o give o.n, o.r, o.t, (o.r.r), count(o.l)", [1, 3]), ("from A o give o.n", []),
                             ("from A o group by o.r, o give o, count(), o.r", [0, 2]), ("from A o group all give count()", [])):
            self.assertEqual(object_columns_of(SCHEMA, text), wanted)
        with self.assertRaises(Fault):
            object_columns_of(SCHEMA, "from A o give p")

    def test_do(self):
        view = View(SCHEMA, PictureSource(PICTURE))
        self.assertEqual(do(view, ("query", "from A o where o.n = :p give o", {"p": 1})), [[5], [8]])
        self.assertEqual(do(view, ("told", 5, "n")), 1)
        self.assertIsNone(do(view, ("make", 2, "B", {"n": 1})))
        self.assertEqual(do(view, ("query", "from B o give o", {})), [[2], [9]])
        self.assertIs(do(view, ("undo",)), True)


if __name__ == "__main__":
    unittest.main()
