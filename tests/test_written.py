"""Point [133]: the rows of now, and the transactions that lead to them."""

import unittest

from oneheap.layouts.layout import Layout
from oneheap.mapper.inspector import table_rows, transaction, version_rows
from oneheap.mapper.mapper import Mapper
from oneheap.store.rows import Row
from oneheap.store.transactions import run_statements

SCHEMA = 'kind A { a: int 0..9; r: ref A; s: one of "p", "q"; key a; } kind B { n: int 0..9; l: list A; }'


def rows_now(mapper):
    """Return the tables and all rows of now."""
    tables = Layout(mapper.ground.line).tables
    return tables, [Row(table.name, number, cells) for table in tables for number, cells in table_rows(mapper, table.name)]


class WrittenCase(unittest.TestCase):
    def setUp(self):
        self.mapper = Mapper(SCHEMA)
        self.session = self.mapper.start_session(1, 1)

    def make(self):
        self.session.make("A", {"a": 1, "s": "p"})
        self.session.make("A", {"a": 2, "r": 1001, "s": "q"})
        self.session.make("B", {"n": 5})
        self.session.link(1003, "l", 1002)
        self.assertEqual(self.session.flush(), ("taken",))

    def check_leads(self, call, word, number):
        """Check that a call writes a transaction that leads from the rows of before to those of now; return its statements."""
        tables, before = rows_now(self.mapper)
        call()
        found = transaction(self.mapper)
        self.assertEqual(found[:2], (word, number))
        if word != "end":
            self.assertEqual(run_statements(tables, before, found[2]), rows_now(self.mapper)[1])
        return found[2]

    def check_nothing(self, call):
        """Check that a call writes no transaction."""
        before, rows = transaction(self.mapper), rows_now(self.mapper)[1]
        call()
        self.assertEqual((transaction(self.mapper), rows_now(self.mapper)[1]), (before, rows))


class FlushTest(WrittenCase):
    def test_no_transaction_at_first(self):
        self.assertIsNone(transaction(self.mapper))
        self.assertEqual(table_rows(self.mapper, "v1.A"), [])
        self.assertEqual(table_rows(self.mapper, "v9.Z"), [])

    def test_inserts(self):
        statements = self.check_leads(self.make, "flush", 1)
        self.assertEqual(statements, [("insert", "v1.A", 1001, [1, None, "p"]), ("insert", "v1.A", 1002, [2, 1001, "q"]),
                                      ("insert", "v1.B", 1003, [5, [1002]])])
        self.assertEqual(table_rows(self.mapper, "v1.A"), [(1001, [1, None, "p"]), (1002, [2, 1001, "q"])])

    def test_changes_and_deletes(self):
        self.make()
        other = self.mapper.start_session(1, 2)
        other.put(1001, "a", 9)
        other.put(1001, "s", "q")
        other.delete(1002)
        statements = self.check_leads(other.flush, "flush", 2)
        self.assertEqual(statements, [("change", "v1.A", 1001, [(0, 9), (2, "q")]), ("change", "v1.B", 1003, [(1, [])]), ("delete", "v1.A", 1002)])

    def test_rings(self):
        self.make()
        self.session.put(1001, "a", 2)
        self.session.put(1002, "a", 1)
        statements = self.check_leads(self.session.flush, "flush", 1)
        self.assertEqual(statements, [("change", "v1.A", 1001, [(0, ("mark",))]), ("change", "v1.A", 1002, [(0, 1)]), ("change", "v1.A", 1001, [(0, 2)])])

    def test_nothing_is_written(self):
        self.make()
        self.check_nothing(self.session.flush)
        self.session.put(1001, "a", 1)
        self.check_nothing(self.session.flush)
        self.session.make("A", {"a": 2})
        self.check_nothing(self.session.flush)
        self.session.drop()
        self.session.told(1001, "a")
        self.check_nothing(self.session.refresh)
        self.check_nothing(self.session.rebase)
        self.check_nothing(self.session.close)

    def test_new_objects_lie_at_the_version_of_the_session(self):
        self.make()
        self.mapper.add_version("rename A.a to b; new A.x: int 0..9 = 3;")
        younger = self.mapper.start_session(2, 2)
        younger.put(1001, "x", 4)
        younger.make("A", {"b": 7})
        self.assertEqual(younger.flush(), ("taken",))
        self.assertEqual(table_rows(self.mapper, "v1.A"), [(1001, [1, None, "p", 4]), (1002, [2, 1001, "q", 3])])
        self.assertEqual(table_rows(self.mapper, "v2.A"), [(2001, [7, None, None, None])])
        self.assertEqual([row[3] for row in version_rows(self.mapper)], [3, 1])

    def test_objects_that_leave_the_version_of_their_place(self):
        self.make()
        self.mapper.add_version('split A by s into "p" as P, "q" as Q;')
        self.mapper.add_version("gone kind Q;")
        self.mapper.move(3, 1)
        self.assertEqual([row[2:] for row in version_rows(self.mapper)], [(3, 2), (3, 0), (2, 1)])
        self.session.put(1001, "s", "q")
        statements = self.check_leads(self.session.flush, "flush", 1)
        self.assertEqual(statements[0][:4], ("move", "v3.P", "v1.A", 1001))
        self.assertEqual([row[2:] for row in version_rows(self.mapper)], [(3, 3), (3, 0), (1, 0)])
        self.session.put(1001, "s", "p")
        self.session.flush()
        self.assertEqual([row[2:] for row in version_rows(self.mapper)], [(3, 3), (3, 0), (2, 0)])

    def test_objects_that_change_their_kind_keep_their_place(self):
        self.make()
        self.mapper.add_version('split A by s into "p" as P, "q" as Q;')
        self.mapper.move(2, 1)
        self.assertEqual([row[0] for row in table_rows(self.mapper, "v2.P")], [1001])
        self.session.put(1001, "s", "q")
        self.check_leads(self.session.flush, "flush", 1)
        self.assertEqual([row[0] for row in table_rows(self.mapper, "v2.Q")], [1001])
        self.assertEqual([row[0] for row in table_rows(self.mapper, "v1.A")], [1002])


class MoveAndEndTest(WrittenCase):
    def test_a_move(self):
        self.make()
        self.mapper.add_version("rename A.a to b;")
        statements = self.check_leads(lambda: self.mapper.move(2, 20), "move", None)
        self.assertEqual(statements, [("move", "v1.A", "v2.A", 1001, [1, None, "p"]), ("move", "v1.A", "v2.A", 1002, [2, 1001, "q"]),
                                      ("move", "v1.B", "v2.B", 1003, [5, [1002]])])
        self.check_nothing(lambda: self.mapper.move(2, 20))

    def test_new_tables_are_no_transaction(self):
        self.make()
        before = transaction(self.mapper)
        self.mapper.add_version("new A.x: int 0..9 = 3;")
        self.assertEqual(transaction(self.mapper), before)
        self.assertEqual(table_rows(self.mapper, "v1.A")[0], (1001, [1, None, "p", 3]))
        self.mapper.end(2)
        self.assertEqual(transaction(self.mapper), before)
        self.assertEqual(table_rows(self.mapper, "v1.A")[0], (1001, [1, None, "p"]))

    def test_an_end(self):
        self.make()
        self.mapper.add_version("gone kind B; rename A.a to b;")
        tables, before = rows_now(self.mapper)
        statements = self.check_leads(lambda: self.mapper.end(1), "end", None)
        self.assertEqual(statements, [("move", "v1.A", "v2.A", 1001, [1, None, "p"]), ("move", "v1.A", "v2.A", 1002, [2, 1001, "q"]),
                                      ("delete", "v1.B", 1003)])
        # The transaction leads to rows in the tables of before; they are laid anew then.
        self.assertEqual(run_statements(tables, before, statements), [Row("v2.A", 1001, [1, None, "p"]), Row("v2.A", 1002, [2, 1001, "q"])])
        self.assertEqual(rows_now(self.mapper)[1], [Row("v2.A", 1001, [1, None, "p"]), Row("v2.A", 1002, [2, 1001, "q"])])

    def test_all_else_stays_in_the_rows_behind_an_end(self):
        self.mapper.add_version("new A.x: int 0..9 = 3; gone A.a; gone kind B;")
        younger = self.mapper.start_session(2, 2)
        self.make()
        tables, before = rows_now(self.mapper)
        statements = self.check_leads(lambda: self.mapper.end(1), "end", None)
        self.assertEqual(run_statements(tables, before, statements), [Row("v2.A", 1001, [None, "p", 3, 1]), Row("v2.A", 1002, [1001, "q", 3, 2])])
        self.assertEqual(rows_now(self.mapper)[1], [Row("v2.A", 1001, [None, "p", 3]), Row("v2.A", 1002, [1001, "q", 3])])
        younger.drop()
        self.assertEqual(younger.ask("from A o give o, o.x, o.r", {}), [[1001, 3, None], [1002, 3, 1001]])

    def test_an_end_that_writes_nothing(self):
        self.make()
        self.mapper.add_version("gone A.a;")
        before = transaction(self.mapper)
        self.assertIsNone(self.mapper.end(2))
        self.assertEqual(transaction(self.mapper), before)

    def test_an_end_that_is_refused_writes_nothing(self):
        self.make()
        self.mapper.add_version("new not null A.r;")
        self.mapper.move(2, 2)
        before = transaction(self.mapper)
        self.assertEqual(self.mapper.end(1), (1001, "A.r needed"))
        self.assertEqual(transaction(self.mapper), before)
        self.assertEqual([row[3] for row in version_rows(self.mapper)], [1, 2])

    def test_keys_of_the_store_behind_an_end(self):
        self.make()
        self.mapper.add_version("gone key A (a); rename B.n to m;")
        younger = self.mapper.start_session(2, 2)
        younger.put(1002, "a", 1)
        self.assertEqual(younger.flush(), ("taken",))
        self.assertEqual(self.mapper.end(2), (1001, "A key a"))
        younger.put(1002, "a", 3)
        younger.flush()
        self.assertIsNone(self.mapper.end(2))
        self.session.drop()
        self.session.put(1001, "a", 3)
        self.session.put(1002, "a", 1)
        self.check_leads(self.session.flush, "flush", 1)

    def test_the_places_of_old_heaps_follow_an_end(self):
        self.make()
        self.mapper.add_version("")
        old = self.mapper.start_session(2, 2)
        self.session.put(1001, "a", 5)
        self.session.flush()
        self.mapper.move(2, 1)
        self.assertIsNone(self.mapper.end(1))
        self.assertEqual((old.told(1001, "a"), old.told(1002, "r"), old.listed(1003, "l")), (1, 1001, [1002]))

    def test_the_last_transaction_is_not_shared(self):
        self.make()
        found = transaction(self.mapper)
        found[2][2][3][1].append(7)
        found[2].clear()
        self.assertEqual(transaction(self.mapper)[2][2], ("insert", "v1.B", 1003, [5, [1002]]))
        self.assertEqual(table_rows(self.mapper, "v1.B"), [(1003, [5, [1002]])])


if __name__ == "__main__":
    unittest.main()
