"""Point [134]: the functions of the inspector, by which nothing is changed."""

import unittest

from oneheap.errors import Fault, NoSuchVersion, NotAtAnEnd, OnlyVersion
from oneheap.mapper.inspector import (
    against, losing_of, plan_of_query, schema_text, step_text, table_rows, take_requests, transaction, version_rows, why, would_lose,
)
from oneheap.mapper.mapper import Mapper

SCHEMA = "kind A { a: int 0..9; t: text 9; r: ref A; l: list A; key a; }"


class InspectorCase(unittest.TestCase):
    def setUp(self):
        self.mapper = Mapper(SCHEMA)
        self.session = self.mapper.start_session(1, 1)
        for number in (1, 2, 3):
            self.session.make("A", {"a": number, "t": "x" * number})
        self.session.link(1001, "l", 1002)
        self.session.put(1003, "r", 1001)
        self.assertEqual(self.session.flush(), ("taken",))


class TextsTest(InspectorCase):
    def test_version_rows(self):
        self.mapper.add_version("gone kind A; new kind B { };")
        self.mapper.shut(1)
        self.assertEqual(version_rows(self.mapper), [(1, True, 3, 3), (2, False, 0, 0)])
        self.assertEqual(version_rows(Mapper(SCHEMA)), [(1, False, 0, 0)])

    def test_schema_and_step(self):
        self.assertEqual(schema_text(self.mapper, 1), SCHEMA)
        self.assertIsNone(step_text(self.mapper, 1))
        self.mapper.add_version("rename  A . a to b;gone A.t=\"x\";")
        self.assertEqual(schema_text(self.mapper, 2), "kind A { b: int 0..9; r: ref A; l: list A; key b; }")
        self.assertEqual(step_text(self.mapper, 2), 'rename A.a to b; gone A.t = "x";')
        self.mapper.end(1)
        self.assertIsNone(step_text(self.mapper, 2))

    def test_losing_of(self):
        self.mapper.add_version("gone A.t; change A.a: int 0..5; rename A.r to s;")
        self.assertEqual(losing_of(self.mapper, 1), [])
        self.assertEqual([(loss.line, loss.one, loss.other) for loss in losing_of(self.mapper, 2)],
                         [("gone A.t;", [""], [None]), ("change A.a: int 0..5;", [6], [None])])
        self.mapper.end(1)
        self.assertEqual(losing_of(self.mapper, 2), [])

    def test_no_such_version(self):
        self.mapper.add_version("")
        self.mapper.end(1)
        for function in (schema_text, step_text, losing_of, would_lose, against):
            for version in (1, 3):
                with self.assertRaises(NoSuchVersion):
                    function(self.mapper, version)
        with self.assertRaises(NoSuchVersion):
            plan_of_query(self.mapper, 1, "from A")

    def test_plan_of_query(self):
        self.mapper.add_version("rename A.a to b;")
        self.assertEqual(plan_of_query(self.mapper, 1, "from A o where o.a = 1 give o"), "key a")
        self.assertEqual(plan_of_query(self.mapper, 2, "from A o where o.b = 1 give o"), "key b")
        self.assertEqual(plan_of_query(self.mapper, 2, "from A o give o"), "all")
        with self.assertRaises(Fault):
            plan_of_query(self.mapper, 2, "from A o where o.a = 1 give o")


class WouldLoseTest(InspectorCase):
    def test_errors(self):
        with self.assertRaises(OnlyVersion):
            would_lose(self.mapper, 1)
        with self.assertRaises(NoSuchVersion):
            would_lose(self.mapper, 2)
        self.mapper.add_version("")
        self.mapper.add_version("")
        with self.assertRaises(NotAtAnEnd):
            would_lose(self.mapper, 2)

    def test_nothing_would_be_lost(self):
        self.mapper.add_version("rename A.a to b;")
        self.assertEqual((would_lose(self.mapper, 1), would_lose(self.mapper, 2)), ([], []))

    def test_the_elder_end(self):
        self.mapper.add_version('gone A.t = "xx";')
        self.assertEqual(would_lose(self.mapper, 1), [1001, 1003])
        self.assertEqual(would_lose(self.mapper, 2), [])

    def test_the_younger_end(self):
        self.mapper.add_version("new A.n: int 0..9 = 4;")
        self.mapper.add_version("new A.m: int 0..9 = 5; new kind B { };")
        younger = self.mapper.start_session(3, 3)
        younger.put(1002, "m", 6)
        younger.put(1003, "n", 7)
        younger.make("B", {})
        younger.make("A", {"m": 5})
        younger.flush()
        self.assertEqual(would_lose(self.mapper, 3), [1002, 3001])
        self.assertEqual(would_lose(self.mapper, 1), [])
        self.mapper.end(3)
        self.assertEqual(would_lose(self.mapper, 2), [1003, 3002])

    def test_objects_that_are_not_there_in_the_neighbour(self):
        self.mapper.add_version("gone kind A; new kind B { };")
        self.assertEqual(would_lose(self.mapper, 1), [1001, 1002, 1003])
        self.assertEqual(would_lose(self.mapper, 2), [])

    def test_at_most_twenty(self):
        self.mapper.add_version("gone A.t;")
        for number in range(4, 26):
            self.session.make("A", {"t": ""})
        self.session.flush()
        self.assertEqual(would_lose(self.mapper, 1), list(range(1001, 1021)))


class AgainstTest(InspectorCase):
    def test_against(self):
        self.mapper.add_version("new not null A.r; new not null A.t; new key A (t);")
        self.assertEqual(against(self.mapper, 1), [])
        self.assertEqual(against(self.mapper, 2), [(1001, "A.r needed"), (1002, "A.r needed")])
        self.session.put(1001, "t", None)
        self.session.put(1002, "t", "xxx")
        self.session.flush()
        self.assertEqual(against(self.mapper, 2), [(1001, "A.t needed"), (1001, "A.r needed"), (1002, "A.r needed"), (1002, "A key t"), (1003, "A key t")])

    def test_the_first_twenty_pairs(self):
        self.mapper.add_version("new not null A.r; new not null A.t;")
        for _ in range(12):
            self.session.make("A", {})
        self.session.flush()
        found = against(self.mapper, 2)
        self.assertEqual(len(found), 20)
        self.assertEqual(found[:3] + found[-1:], [(1001, "A.r needed"), (1002, "A.r needed"), (1004, "A.t needed"), (1012, "A.r needed")])


class RowsTest(InspectorCase):
    def test_table_rows(self):
        self.assertEqual(table_rows(self.mapper, "v1.A"), [(1001, [1, "x", None, [1002]]), (1002, [2, "xx", None, []]), (1003, [3, "xxx", 1001, []])])
        self.assertEqual(table_rows(self.mapper, "v2.A"), [])

    def test_what_is_returned_is_not_shared(self):
        rows = table_rows(self.mapper, "v1.A")
        rows[0][1][3].append(5)
        rows[0][1][0] = 7
        rows.clear()
        self.assertEqual(table_rows(self.mapper, "v1.A")[0], (1001, [1, "x", None, [1002]]))
        self.session.drop()
        self.assertEqual((self.session.told(1001, "a"), self.session.listed(1001, "l")), (1, [1002]))
        take_requests(self.mapper).append(1)
        self.assertEqual(take_requests(self.mapper), [])

    def test_take_requests(self):
        take_requests(self.mapper)
        self.session.look_up("A", ["a"], [2])
        self.session.referred(1001, "A", "r")
        self.session.ask("from A o where o.t = \"x\" give o", {})
        found = take_requests(self.mapper)
        self.assertEqual(found[0], (1, "alike A a", []))
        self.assertIn((1, "referrers A.r", [1001]), found)
        self.assertIn((1, "numbers A", []), found)
        self.assertEqual(take_requests(self.mapper), [])


class OrderTest(unittest.TestCase):
    def test_the_least_numbers_first(self):
        mapper = Mapper("kind A { a: int 0..9; b: int 0..9; }")
        for number in (5, 2, 8):
            session = mapper.start_session(1, number)
            session.make("A", {"a": 1})
            session.flush()
        mapper.add_version("gone A.a; new not null A.b;")
        self.assertEqual(would_lose(mapper, 1), [2001, 5001, 8001])
        self.assertEqual(against(mapper, 2), [(2001, "A.b needed"), (5001, "A.b needed"), (8001, "A.b needed")])
        self.assertEqual(table_rows(mapper, "v1.A"), [(2001, [1, None]), (5001, [1, None]), (8001, [1, None])])


class WhyTest(InspectorCase):
    def test_none(self):
        self.assertIsNone(why(self.mapper, 1))
        self.assertIsNone(why(self.mapper, 2))
        self.mapper.start_session(1, 3)
        self.assertIsNone(why(self.mapper, 3))

    def test_against(self):
        self.session.make("A", {"a": 1})
        self.assertEqual(self.session.flush(), ("against", 1004, "A key a"))
        self.assertEqual(why(self.mapper, 1), ("against", 1004, "A key a"))
        self.session.close()
        self.assertEqual(why(self.mapper, 1), ("against", 1004, "A key a"))

    def refused(self):
        """Return a session that was refused a flush."""
        other = self.mapper.start_session(1, 2)
        other.ask("from A o where o.a < :p give o, o.t", {"p": 2})
        other.put(1003, "t", "y")
        self.session.put(1001, "t", "z")
        self.session.flush()
        self.assertEqual(other.flush(), ("otherwise", 0))
        return other

    def test_otherwise(self):
        self.refused()
        found = why(self.mapper, 2)
        self.assertEqual(found, ("otherwise", 0, ("query", "from A o where o.a < :p give o, o.t", {"p": 2}), ("value", [[1001, "x"]]),
                                 ("value", [[1001, "z"]])))
        found[2][2].clear()
        found[3][1].clear()
        found[4][1][0].clear()
        self.assertEqual(why(self.mapper, 2)[2:], (("query", "from A o where o.a < :p give o, o.t", {"p": 2}), ("value", [[1001, "x"]]),
                                                   ("value", [[1001, "z"]])))
        self.assertIsNone(why(self.mapper, 1))

    def test_deeds_as_they_stand_in_the_script(self):
        other = self.mapper.start_session(1, 2)
        other.look_up("A", ["a"], [2])
        self.session.put(1002, "a", 9)
        self.session.flush()
        self.assertEqual(other.refresh(), ("otherwise", 0))
        self.assertEqual(why(self.mapper, 2), ("otherwise", 0, ("look_up", "A", ("a",), (2,)), ("value", 1002), ("value", None)))
        other.drop()
        other.link(1001, "l", 1003)
        other.delete(1002)
        self.session.unlink(1001, "l", 1002)
        self.session.flush()
        self.assertEqual(other.rebase(), ("otherwise", 1))
        self.assertEqual(why(self.mapper, 2), ("otherwise", 1, ("delete", 1002), ("value", ([1002], [1001])), ("value", ([1002], []))))

    def test_what_is_taken_ends_it(self):
        for word in ("rebase", "drop"):
            other = self.refused() if word == "rebase" else self.mapper.start_session(1, 5)
            getattr(other, word)()
            self.assertIsNone(why(self.mapper, other.number))
            other.close()

    def test_a_drop_ends_it(self):
        other = self.refused()
        other.told(1001, "a")
        self.assertIsNotNone(why(self.mapper, 2))
        other.drop()
        self.assertIsNone(why(self.mapper, 2))

    def test_the_last_one_counts(self):
        other = self.refused()
        self.assertEqual(other.refresh(), ("otherwise", 0))
        other.rebase()
        other.put(1002, "a", 1)
        other.flush()
        self.assertEqual(why(self.mapper, 2), ("against", 1002, "A key a"))
        other.undo()
        self.assertEqual(other.refresh(), ("taken",))
        self.assertIsNone(why(self.mapper, 2))
        other.put(1002, "a", 1)
        other.flush()
        self.assertIsNotNone(why(self.mapper, 2))
        other.put(1002, "a", 8)
        self.assertEqual(other.flush(), ("taken",))
        self.assertIsNone(why(self.mapper, 2))

    def test_an_ended_version(self):
        self.mapper.add_version("")
        other = self.refused()
        self.mapper.end(1)
        self.assertEqual(why(self.mapper, 2)[:2], ("otherwise", 0))
        self.assertIsNotNone(other)


class NothingChangesTest(InspectorCase):
    def test_nothing_is_changed(self):
        self.mapper.add_version("gone A.t; new not null A.r;")
        self.session.told(1001, "t")
        told = (version_rows(self.mapper), table_rows(self.mapper, "v1.A"), transaction(self.mapper))
        take_requests(self.mapper)
        for version in (1, 2):
            for function in (schema_text, step_text, losing_of, would_lose, against):
                function(self.mapper, version)
            plan_of_query(self.mapper, version, "from A o give o")
        why(self.mapper, 1)
        self.assertEqual(take_requests(self.mapper), [])
        self.assertEqual((version_rows(self.mapper), table_rows(self.mapper, "v1.A"), transaction(self.mapper)), told)
        self.session.told(1001, "t")
        self.assertEqual(take_requests(self.mapper), [])
        self.assertEqual(self.session.flush(), ("taken",))


if __name__ == "__main__":
    unittest.main()
