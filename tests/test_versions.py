"""Points [128] to [132]: versions are added, shut and ended, and objects are moved."""

import unittest

from helper import line_of, thing
from oneheap.errors import Fault, NoSuchVersion, NotAtAnEnd, OnlyVersion, TooManyColumns, TooManyVersions, VersionEnded, VersionIsShut
from oneheap.mapper.inspector import against, schema_text, step_text, table_rows, take_requests, transaction, version_rows
from oneheap.heap.heap import Heap
from oneheap.mapper.ending import heap_at_ending, places_at_ending
from oneheap.mapper.mapper import Mapper

SCHEMA = "kind A { a: int 0..9; t: text 9; r: ref A; l: list A; key a; } kind B { n: int 0..9; r: ref A; }"


class VersionCase(unittest.TestCase):
    def mapper(self, *texts):
        """Return a mapper with versions added, and with the objects 1001 to 1003 of version 1."""
        mapper = Mapper(SCHEMA)
        first = mapper.start_session(1, 1)
        first.make("A", {"a": 1, "t": "x"})
        first.make("A", {"a": 2, "t": "y", "r": 1001})
        first.make("B", {"n": 3, "r": 1002})
        first.link(1001, "l", 1002)
        self.assertEqual(first.flush(), ("taken",))
        first.close()
        for text in texts:
            mapper.add_version(text)
        return mapper

    def numbers(self, mapper):
        return [row[0] for row in version_rows(mapper)]


class AddTest(VersionCase):
    def test_the_picture_of_a_new_version(self):
        mapper = self.mapper()
        self.assertEqual(mapper.add_version("rename A.a to b; change A.t: int 0..9 else 5; gone kind B; new A.q: int 0..9 = 7;"), 2)
        session = mapper.start_session(2, 2)
        self.assertEqual(session.ask("from A o give o, o.b, o.t, o.q, o.r", {}), [[1001, 1, 5, 7, None], [1002, 2, 5, 7, 1001]])
        self.assertEqual(session.listed(1001, "l"), [1002])
        self.assertFalse(session.there(1003))
        self.assertEqual(mapper.add_version("rename A to Z;"), 3)
        self.assertEqual(mapper.start_session(3, 3).kind_of(1002), "Z")
        self.assertEqual(version_rows(mapper), [(1, False, 3, 3), (2, False, 2, 0), (3, False, 2, 0)])

    def test_numbers_are_never_given_again(self):
        mapper = self.mapper("", "")
        mapper.end(3)
        self.assertEqual(mapper.add_version(""), 4)
        mapper.end(1)
        mapper.end(2)
        self.assertEqual(mapper.add_version(""), 5)
        self.assertEqual(self.numbers(mapper), [4, 5])

    def test_the_elder_schema_is_that_of_the_last_version(self):
        mapper = self.mapper("rename A.a to b;")
        with self.assertRaises(Fault) as caught:
            mapper.add_version("rename A.a to c;")
        self.assertEqual((caught.exception.place, caught.exception.reason), (0, "no such field"))
        self.assertEqual(mapper.add_version("rename A.b to c;"), 3)

    def test_faults(self):
        mapper = self.mapper()
        for text, place, reason in (("renam", 0, "expected a line"), ("gone kind C;", 0, "no such kind"), ("gone kind A; gone kind B;", 0, "no kind is left")):
            with self.assertRaises(Fault) as caught:
                mapper.add_version(text)
            self.assertEqual((caught.exception.place, caught.exception.reason), (place, reason))
        self.assertEqual(self.numbers(mapper), [1])
        self.assertEqual(mapper.add_version(""), 2)

    def test_four_versions_may_live(self):
        mapper = self.mapper("", "", "")
        with self.assertRaises(TooManyVersions):
            mapper.add_version("")
        with self.assertRaises(Fault):
            mapper.add_version("gone kind C;")
        self.assertEqual(self.numbers(mapper), [1, 2, 3, 4])
        mapper.shut(2)
        with self.assertRaises(TooManyVersions):
            mapper.add_version("")
        mapper.end(1)
        self.assertEqual(mapper.add_version(""), 5)

    def test_forty_may_be_given(self):
        mapper = self.mapper()
        for number in range(2, 41):
            self.assertEqual(mapper.add_version(""), number)
            mapper.end(number - 1)
        with self.assertRaises(TooManyVersions):
            mapper.add_version("")
        self.assertEqual(mapper.start_session(40, 2).told(1001, "t"), "x")

    def test_too_many_columns(self):
        fields = " ".join(f"f{field}: int 0..9;" for field in range(8))
        mapper = Mapper(" ".join(f"kind K{kind} {{ {fields} }}" for kind in range(5)))
        names = [f"K{kind}.f{field}" for kind in range(2) for field in range(8)]
        for number in (2, 3):
            text = " ".join(f"change {name}: int 0..{number};" for name in names[:12])
            self.assertEqual(mapper.add_version(text), number)
        # Each version has 40 fields, and 12 others have changed in each step: 4 * 75 columns are allowed, 4 * 76 are not.
        last = [f"change {name}: int 0..5;" for name in names]
        with self.assertRaises(TooManyColumns):
            mapper.add_version(" ".join(last[:12]))
        with self.assertRaises(Fault):
            mapper.add_version(" ".join(last[:12]) + "gone kind C;")
        with self.assertRaises(TooManyColumns):
            mapper.add_version(" ".join(last[:11]) + "new kind N { a: int 0..1; };")
        self.assertEqual(self.numbers(mapper), [1, 2, 3])
        self.assertEqual(mapper.add_version(" ".join(last[:11])), 4)

    def test_too_many_versions_comes_ahead_of_too_many_columns(self):
        fields = " ".join(f"f{field}: int 0..9;" for field in range(8))
        mapper = Mapper(" ".join(f"kind K{kind} {{ {fields} }}" for kind in range(7)))
        for number in (2, 3, 4):
            self.assertEqual(mapper.add_version(""), number)
        with self.assertRaises(TooManyVersions):
            mapper.add_version("".join(f"change K{kind}.f{field}: int 0..5;" for kind in range(2) for field in range(6)))

    def test_kept_heaps_get_pictures(self):
        mapper = self.mapper()
        old = mapper.start_session(1, 2)
        other = mapper.start_session(1, 3)
        other.put(1001, "a", 8)
        other.flush()
        mapper.add_version("rename A.a to b;")
        self.assertEqual(old.told(1001, "a"), 1)
        self.assertEqual(mapper.start_session(2, 4).told(1001, "b"), 8)

    def test_no_transaction(self):
        mapper = self.mapper()
        before = transaction(mapper)
        mapper.add_version("gone A.t;")
        self.assertEqual(transaction(mapper), before)
        self.assertEqual(table_rows(mapper, "v1.A"), [(1001, [1, "x", None, [1002]]), (1002, [2, "y", 1001, []])])


class ShutTest(VersionCase):
    def test_shut(self):
        mapper = self.mapper("")
        session, other = mapper.start_session(1, 2), mapper.start_session(2, 3)
        session.put(1001, "a", 5)
        for _ in range(2):
            self.assertIsNone(mapper.shut(1))
            with self.assertRaises(VersionEnded):
                session.flush()
            with self.assertRaises(VersionIsShut):
                mapper.start_session(1, 4)
        self.assertEqual(other.told(1001, "a"), 1)
        other.put(1001, "a", 6)
        self.assertEqual(other.flush(), ("taken",))
        self.assertEqual(version_rows(mapper), [(1, True, 3, 3), (2, False, 3, 0)])
        self.assertEqual(table_rows(mapper, "v1.A")[0], (1001, [6, "x", None, [1002]]))

    def test_no_such_version(self):
        mapper = self.mapper("")
        mapper.end(1)
        for version in (1, 3, 7):
            with self.assertRaises(NoSuchVersion):
                mapper.shut(version)


class EndTest(VersionCase):
    def test_errors_in_order(self):
        mapper = self.mapper()
        with self.assertRaises(NoSuchVersion):
            mapper.end(2)
        with self.assertRaises(OnlyVersion):
            mapper.end(1)
        mapper.add_version("")
        mapper.add_version("")
        with self.assertRaises(NoSuchVersion):
            mapper.end(4)
        with self.assertRaises(NotAtAnEnd):
            mapper.end(2)
        self.assertIsNone(mapper.end(3))
        self.assertIsNone(mapper.end(1))
        with self.assertRaises(NoSuchVersion):
            mapper.end(1)
        with self.assertRaises(OnlyVersion):
            mapper.end(2)

    def test_the_elder_end(self):
        mapper = self.mapper("rename A.a to b;", "rename A.b to c; gone A.t;")
        session = mapper.start_session(2, 2)
        session.put(1001, "t", "new")
        self.assertIsNone(mapper.end(1))
        self.assertEqual((session.told(1001, "t"), session.told(1001, "b")), ("new", 1))
        self.assertEqual(session.flush(), ("taken",))
        self.assertEqual(version_rows(mapper), [(2, False, 3, 3), (3, False, 3, 0)])
        self.assertIsNone(step_text(mapper, 2))
        self.assertEqual(step_text(mapper, 3), "rename A.b to c; gone A.t;")
        self.assertEqual(table_rows(mapper, "v1.A"), [])
        self.assertEqual(table_rows(mapper, "v2.A"), [(1001, [1, "new", None, [1002]]), (1002, [2, "y", 1001, []])])

    def test_the_younger_end(self):
        mapper = self.mapper("rename A.a to b;", "rename A.b to c; gone A.t;")
        mapper.move(3, 2)
        self.assertIsNone(mapper.end(3))
        self.assertEqual(version_rows(mapper), [(1, False, 3, 1), (2, False, 3, 2)])
        self.assertEqual(table_rows(mapper, "v2.A"), [(1001, [1, "x", None, [1002]]), (1002, [2, "y", 1001, []])])
        self.assertEqual(table_rows(mapper, "v1.B"), [(1003, [3, 1002])])

    def test_sessions_of_an_ended_version(self):
        mapper = self.mapper("")
        session, other = mapper.start_session(1, 2), mapper.start_session(2, 3)
        mapper.end(1)
        with self.assertRaises(VersionEnded):
            session.told(1001, "a")
        self.assertEqual(other.told(1001, "a"), 1)

    def test_a_shut_version_may_end_or_stay(self):
        mapper = self.mapper("", "")
        mapper.shut(2)
        self.assertIsNone(mapper.end(1))
        self.assertEqual([row[:2] for row in version_rows(mapper)], [(2, True), (3, False)])
        with self.assertRaises(VersionIsShut):
            mapper.start_session(2, 2)
        self.assertIsNone(mapper.end(2))
        self.assertEqual(mapper.start_session(3, 2).told(1002, "r"), 1001)

    def test_objects_that_were_there_alone(self):
        mapper = self.mapper("gone kind B; new kind C { r: ref A or C; l: list C; };", "")
        session = mapper.start_session(2, 2)
        session.make("C", {"r": 1001})
        session.make("C", {"r": 2001})
        session.flush()
        third, fourth = mapper.start_session(2, 3), mapper.start_session(1, 4)
        self.assertEqual([row[2:] for row in version_rows(mapper)], [(3, 3), (4, 2), (4, 0)])
        self.assertIsNone(mapper.end(1))
        self.assertEqual(version_rows(mapper), [(2, False, 4, 4), (3, False, 4, 0)])
        self.assertEqual((third.there(1003), third.told(2002, "r")), (False, 2001))
        fourth.close()
        self.assertIsNone(mapper.end(2))
        self.assertEqual(mapper.start_session(3, 5).ask("from C c give c, c.r", {}), [[2001, 1001], [2002, 2001]])

    def test_their_numbers_are_taken_out(self):
        mapper = Mapper("kind A { r: ref A or B; l: list A or B; } kind B { }")
        first = mapper.start_session(1, 1)
        first.make("B", {})
        first.make("A", {"r": 1001})
        first.link(1002, "l", 1001)
        first.link(1002, "l", 1002)
        first.flush()
        mapper.add_version("gone kind B;")
        self.assertEqual(table_rows(mapper, "v1.A"), [(1002, [1001, [1002, 1001]])])
        old = mapper.start_session(2, 2)
        self.assertEqual(old.listed(1002, "l"), [1002])
        first.put(1002, "r", 1002)
        first.flush()
        self.assertIsNone(mapper.end(1))
        self.assertEqual(table_rows(mapper, "v2.A"), [(1002, [1002, [1002]])])
        self.assertEqual((old.told(1002, "r"), old.listed(1002, "l")), (None, [1002]))
        # What it reads are the rows that were laid anew: they do not hold the number any more.
        self.assertEqual(old.reader.thing(1002), thing("A", r=None, l=[1002]))
        self.assertEqual(transaction(mapper)[2][-1], ("delete", "v1.B", 1001))

    def test_constraints_that_are_carried_and_stand_against_an_object(self):
        # Sessions of version 2 need neither names nor keys, but all that stays behind version 2 goes on to have them.
        mapper = Mapper("kind A { a: int 0..9 not null; b: int 0..9; key b; }")
        mapper.add_version("gone not null A.a; gone key A (b);")
        session = mapper.start_session(2, 2)
        for contents in ({"a": 1, "b": 1}, {"b": 2}, {"a": 3, "b": 1}, {"b": 1}):
            session.make("A", contents)
        self.assertEqual(session.flush(), ("taken",))
        before = transaction(mapper)
        self.assertEqual(mapper.end(2), (2001, "A key b"))
        self.assertEqual(version_rows(mapper), [(1, False, 4, 0), (2, False, 4, 4)])
        self.assertEqual((transaction(mapper), session.told(2001, "b")), (before, 1))
        session.put(2001, "b", 5)
        session.flush()
        self.assertEqual(mapper.end(2), (2002, "A.a needed"))
        session.put(2002, "a", 1)
        session.flush()
        self.assertEqual(mapper.end(2), (2003, "A key b"))
        session.put(2004, "b", 6)
        session.flush()
        self.assertEqual(mapper.end(2), (2004, "A.a needed"))
        session.put(2004, "a", 1)
        session.flush()
        self.assertIsNone(mapper.end(2))
        self.assertEqual(version_rows(mapper), [(1, False, 4, 4)])

    def test_the_least_object(self):
        mapper = Mapper("kind A { a: int 0..9 not null; }")
        mapper.add_version("gone not null A.a;")
        for number in (7, 3, 5):
            session = mapper.start_session(2, number)
            session.make("A", {})
            session.flush()
        self.assertEqual(mapper.end(2), (3001, "A.a needed"))

    def test_constraints_that_are_not_carried_do_not_count(self):
        mapper = Mapper("kind A { a: int 0..9 not null; b: int 0..9; key b; }")
        mapper.add_version("gone not null A.a; gone key A (b);")
        mapper.add_version("")
        session = mapper.start_session(2, 2)
        session.make("A", {"b": 1})
        session.make("A", {"b": 1})
        session.flush()
        self.assertIsNone(mapper.end(3))
        self.assertEqual(mapper.end(2), (2001, "A.a needed"))
        self.assertIsNone(mapper.end(1))
        self.assertEqual(version_rows(mapper), [(2, False, 2, 2)])

    def test_the_constraints_of_the_elder_end(self):
        mapper = self.mapper("new key A (t); new not null A.r;", "gone key A (t);")
        self.assertEqual(against(mapper, 2), [(1001, "A.r needed")])
        self.assertEqual(mapper.end(1), (1001, "A.r needed"))
        session = mapper.start_session(3, 2)
        session.put(1001, "r", 1001)
        session.put(1002, "t", "x")
        session.flush()
        # The key of the titles is not carried to version 3.
        self.assertEqual(against(mapper, 2), [(1001, "A key t"), (1002, "A key t")])
        self.assertIsNone(mapper.end(1))

    def test_constraints_ask_for_what_is_told(self):
        mapper = Mapper("kind A { r: ref A or B not null; } kind B { }")
        mapper.add_version("new kind C { }; change A.r: ref A or B or C;")
        session = mapper.start_session(2, 2)
        session.make("C", {})
        session.make("A", {"r": 2001})
        self.assertEqual(session.flush(), ("taken",))
        # What the object of version 2 refers to is not there in version 1.
        self.assertEqual(mapper.end(2), (2002, "A.r needed"))
        session.put(2002, "r", 2002)
        session.flush()
        self.assertIsNone(mapper.end(2))
        self.assertEqual(version_rows(mapper), [(1, False, 1, 1)])

    def test_carried_constraints_with_one_version_left(self):
        mapper = Mapper("kind A { r: ref A or B not null; } kind B { }")
        mapper.add_version("gone not null A.r; new kind C { };")
        session = mapper.start_session(2, 2)
        session.make("A", {})
        session.flush()
        self.assertEqual(mapper.end(2), (2001, "A.r needed"))
        self.assertIsNone(mapper.end(1))

    def test_nothing_is_known_to_any_session(self):
        mapper = self.mapper("", "")
        session = mapper.start_session(2, 2)
        session.ahead([1001, 1002], [])
        mapper.end(3)
        take_requests(mapper)
        session.there(1001)
        session.there(1002)
        self.assertEqual(take_requests(mapper), [(2, "object", [1001]), (2, "object", [1002])])
        mapper.add_version("")
        mapper.move(2, 3)
        session.there(1001)
        self.assertEqual(take_requests(mapper), [])

    def test_the_heap_from_which_rows_are_wanted(self):
        line = line_of("kind A { r: ref A or B; } kind B { }", "gone kind B;")
        heap = Heap({1: {1: thing("A", r=2), 2: thing("B")}, 2: {1: thing("A", r=2)}})
        found = heap_at_ending(line, heap, 1)
        self.assertEqual(found, Heap({1: {1: thing("A", r=None)}, 2: {1: thing("A", r=None)}}))
        self.assertEqual(heap_at_ending(line, heap, 2), heap)
        self.assertEqual(places_at_ending(Heap({2: {1: thing("A", r=None)}}), {1: 1, 2: 1}, 1, 2), {1: 2})

    def test_a_failed_end_forgets_nothing(self):
        mapper = Mapper("kind A { a: int 0..9 not null; }")
        mapper.add_version("gone not null A.a;")
        session = mapper.start_session(2, 2)
        session.make("A", {})
        session.flush()
        session.there(2001)
        take_requests(mapper)
        self.assertEqual(mapper.end(2), (2001, "A.a needed"))
        session.there(2001)
        self.assertEqual(take_requests(mapper), [])


class MoveTest(VersionCase):
    def placed(self, mapper):
        return [row[3] for row in version_rows(mapper)]

    def test_fewer_than_there_are(self):
        mapper = self.mapper("rename A.a to b;")
        self.assertIsNone(mapper.move(2, 2))
        self.assertEqual(self.placed(mapper), [1, 2])
        self.assertEqual([row[0] for row in table_rows(mapper, "v2.A")], [1001, 1002])
        self.assertEqual([row[0] for row in table_rows(mapper, "v1.B")], [1003])
        mapper.move(1, 1)
        self.assertEqual([row[0] for row in table_rows(mapper, "v1.A")], [1001])
        self.assertEqual([row[0] for row in table_rows(mapper, "v2.A")], [1002])

    def test_those_that_are_placed_elsewhere_count(self):
        mapper = self.mapper("rename A.a to b;")
        mapper.move(2, 1)
        mapper.move(2, 1)
        self.assertEqual([row[0] for row in table_rows(mapper, "v2.A")], [1001, 1002])

    def test_the_least_numbers(self):
        mapper = Mapper(SCHEMA)
        for number in (9, 3, 7):
            session = mapper.start_session(1, number)
            session.make("A", {})
            session.flush()
        mapper.add_version("")
        mapper.move(2, 2)
        self.assertEqual([row[0] for row in table_rows(mapper, "v2.A")], [3001, 7001])
        self.assertEqual(table_rows(mapper, "v1.A"), [(9001, [None, None, None, []])])

    def test_more_than_there_are(self):
        mapper = self.mapper("gone kind B;")
        mapper.move(2, 20)
        self.assertEqual(self.placed(mapper), [1, 2])
        before = transaction(mapper)
        mapper.move(2, 20)
        self.assertEqual(transaction(mapper), before)

    def test_answers_stay(self):
        mapper = self.mapper("rename A.a to b;")
        session = mapper.start_session(2, 2)
        session.told(1001, "b")
        session.put(1002, "b", 9)
        mapper.move(2, 20)
        self.assertEqual((session.told(1002, "b"), session.told(1002, "r")), (9, 1001))
        self.assertEqual(session.flush(), ("taken",))
        self.assertEqual(mapper.start_session(1, 3).told(1002, "a"), 9)

    def test_no_such_version(self):
        mapper = self.mapper()
        with self.assertRaises(NoSuchVersion):
            mapper.move(2, 1)
        mapper.shut(1)
        self.assertIsNone(mapper.move(1, 1))

    def test_schemas_stay(self):
        mapper = self.mapper("rename A.a to b;")
        mapper.move(2, 20)
        self.assertEqual(schema_text(mapper, 1), SCHEMA)


if __name__ == "__main__":
    unittest.main()
