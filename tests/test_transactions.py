"""Points [68], [69], [71] to [73]: rules of rows, statements and transactions."""

import itertools
import unittest

from oneheap.errors import HeapError, MarksLeft, RowsOutOfOrder, StatementRefused
from oneheap.store.rows import MARK, Row, sorted_rows
from oneheap.store.tables import Column, StoreKey, Table
from oneheap.store.transactions import are_in_order, first_fault, run_statements

TABLES = [
    Table("B", [Column("title", "value"), Column("writer", "reference", ["A"]), Column("also", "links", ["A", "B"])],
          [StoreKey("k", [0]), StoreKey("w", [0, 1])]),
    Table("A", [Column("boss", "reference", ["A", "B"]), Column("name", "value")], [StoreKey("k", [1])]),
    Table("C", [Column("code", "reference", ["B"]), Column("n", "value")], [StoreKey("k", [0])]),
]


def b(number, title=None, writer=None, also=()):
    return Row("B", number, [title, writer, also if also == MARK else list(also)])


def a(number, boss=None, name=None):
    return Row("A", number, [boss, name])


def c(number, code=None, n=None):
    return Row("C", number, [code, n])


class FirstFaultTest(unittest.TestCase):
    def check(self, rows, wanted):
        for one in itertools.permutations(rows):
            self.assertEqual(first_fault(TABLES, list(one)), wanted)
            self.assertEqual(are_in_order(TABLES, list(one)), wanted is None)

    def test_in_order(self):
        self.check([], None)
        self.check([b(1, "x", 2, [2, 1]), a(2, 1, "y"), a(3, 2), c(9, 1)], None)

    def test_a_row_may_refer_to_itself(self):
        self.check([a(2, 2), b(1, None, None, [1])], None)

    def test_a_number_that_is_not_there(self):
        self.check([a(2, 5)], ("not there", 5))
        self.check([b(1, None, None, [7, 6])], ("not there", 7))

    def test_a_number_that_is_there_in_another_table_only(self):
        self.check([b(1, None, 1)], ("not there", 1))
        self.check([a(2), b(1, None, 2), c(3, 2)], ("not there", 2))
        self.check([c(3), a(2, 3)], ("not there", 3))

    def test_numbers_of_rows_in_several_tables(self):
        self.check([b(1, None, 1), a(1), c(1, 1)], None)

    def test_rows_columns_and_links_in_order(self):
        self.check([a(1, 9), b(5, None, 8), b(4, None, None, [7])], ("not there", 7))
        self.check([a(1, 9), b(5, None, 8, [7, 6])], ("not there", 8))
        self.check([a(1), b(5, None, 1, [1, 7, 6])], ("not there", 7))
        self.check([a(1, 9), c(1, 8)], ("not there", 9))
        self.check([b(10, None, 8), b(9, None, 7)], ("not there", 7))

    def test_numbers_come_ahead_of_keys(self):
        self.check([b(1, "x"), b(2, "x"), c(1, 5)], ("not there", 5))

    def test_the_same_value_in_one_table(self):
        self.check([a(1, None, "x"), a(3, None, "x"), a(2, None, "x")], ("same key", 2))
        self.check([a(1, None, "x"), a(3, None, "y"), a(2, None, "X")], None)

    def test_the_same_value_in_two_tables(self):
        self.check([a(1, None, "x"), b(7, "x")], ("same key", 1))
        self.check([a(3, None, "x"), b(7, "x"), a(2, None, "y"), a(4, None, "x")], ("same key", 3))
        self.check([a(1, None, 1), b(7, "1")], None)

    def test_other_roles_of_the_columns(self):
        self.check([a(1, None, 7), b(7), c(1, 7)], None)
        self.check([c(1, 7), b(7), c(2, 7)], ("same key", 2))

    def test_keys_of_several_columns(self):
        rows = [Row("B", n, [None, None, []]) for n in (1, 2)]
        self.check(rows, None)
        tables = [Table("T", [Column("x", "value"), Column("y", "value")], [StoreKey("k", [0, 1])]),
                  Table("U", [Column("x", "value"), Column("y", "value")], [StoreKey("k", [1, 0])])]
        self.assertIsNone(first_fault(tables, [Row("T", 1, ["p", "q"]), Row("U", 2, ["p", "q"])]))
        self.assertEqual(first_fault(tables, [Row("T", 1, ["p", "q"]), Row("U", 2, ["q", "p"])]), ("same key", 2))
        self.assertIsNone(first_fault(tables, [Row("T", 1, ["p", None]), Row("T", 2, ["p", None]), Row("U", 2, [None, "p"])]))

    def test_other_names_of_keys_are_other_keys(self):
        tables = [Table("T", [Column("x", "value"), Column("y", "value")], [StoreKey("k", [0]), StoreKey("l", [1])])]
        self.assertIsNone(first_fault(tables, [Row("T", 1, ["p", "q"]), Row("T", 2, ["q", "p"])]))
        self.assertEqual(first_fault(tables, [Row("T", 1, ["p", "q"]), Row("T", 2, ["x", "q"])]), ("same key", 2))

    def test_none_and_marks_are_no_values(self):
        self.check([a(1), a(2), b(1), b(2)], None)
        rows = [a(1, None, MARK), a(2, None, MARK), b(1, MARK), b(2, MARK, MARK, MARK)]
        self.assertIsNone(first_fault(TABLES, rows))
        self.assertFalse(are_in_order(TABLES, rows))

    def test_a_mark_refers_to_nothing(self):
        for row in (a(1, MARK), b(1, None, MARK), b(1, None, None, MARK), b(1, MARK), c(1, MARK)):
            self.assertIsNone(first_fault(TABLES, [row]))
            self.assertIs(are_in_order(TABLES, [row]), False)

    def test_a_row_twice(self):
        self.assertFalse(are_in_order(TABLES, [a(1), a(1)]))
        self.assertFalse(are_in_order(TABLES, [a(1, None, "x"), b(2), a(1, None, "y")]))
        self.assertIs(are_in_order(TABLES, [a(1), b(1), c(1)]), True)

    def test_nothing_changes(self):
        rows = [c(2, 1), b(1, "x", None, [1])]
        first_fault(TABLES, rows)
        are_in_order(TABLES, rows)
        self.assertEqual(rows, [c(2, 1), b(1, "x", None, [1])])


class RunTest(unittest.TestCase):
    ROWS = [b(1, "x", 2, [2, 1]), a(2, 1, "y"), a(3, 2), c(9, 1)]

    def run_on(self, rows, *statements):
        return run_statements(TABLES, rows, list(statements))

    def refused(self, rows, *statements):
        kept = [Row(row.table, row.number, row.cells) for row in rows]
        with self.assertRaises(StatementRefused) as caught:
            self.run_on(rows, *statements)
        self.assertEqual(rows, kept)
        error = caught.exception
        self.assertIsInstance(error, HeapError)
        return error.place, error.reason, error.number

    def test_no_statement(self):
        rows = list(reversed(self.ROWS))
        found = self.run_on(rows)
        self.assertEqual(found, sorted_rows(TABLES, self.ROWS))
        found[0].cells[2].append(5)
        self.assertEqual(rows, list(reversed(self.ROWS)))

    def test_insert(self):
        found = self.run_on([a(2)], ("insert", "B", 4, ["t", 2, [4, 2]]))
        self.assertEqual(found, [b(4, "t", 2, [4, 2]), a(2)])

    def test_change(self):
        found = self.run_on(self.ROWS, ("change", "B", 1, [(2, []), (0, None)]), ("change", "A", 2, []))
        self.assertEqual(found, [b(1, None, 2), a(2, 1, "y"), a(3, 2), c(9, 1)])

    def test_delete(self):
        self.assertEqual(self.run_on(self.ROWS, ("delete", "C", 9)), [b(1, "x", 2, [2, 1]), a(2, 1, "y"), a(3, 2)])
        self.assertEqual(self.run_on([a(2, 2)], ("delete", "A", 2)), [])

    def test_move(self):
        found = self.run_on([a(2, None, "y"), c(5)], ("move", "A", "B", 2, ["y", None, [2]]))
        self.assertEqual(found, [b(2, "y", None, [2]), c(5)])
        found = self.run_on([a(2), b(1, None, None, [2]), c(2)], ("move", "A", "B", 2, [None, None, []]))
        self.assertEqual(found, [b(1, None, None, [2]), b(2), c(2)])

    def test_several_behind_each_other(self):
        found = self.run_on(
            self.ROWS, ("insert", "A", 7, [None, "z"]), ("change", "A", 3, [(0, 7)]), ("change", "A", 2, [(1, "w")]),
            ("change", "A", 7, [(1, "y")]), ("delete", "C", 9), ("insert", "C", 9, [None, 4]))
        self.assertEqual(found, [b(1, "x", 2, [2, 1]), a(2, 1, "w"), a(3, 7), a(7, None, "y"), c(9, None, 4)])

    def test_no_such_row(self):
        for statement in (("change", "B", 2, [(0, "x")]), ("delete", "B", 2), ("move", "B", "A", 2, [None, None]),
                          ("change", "A", 1, []), ("move", "A", "C", 1, [99, None])):
            self.assertEqual(self.refused(self.ROWS, statement), (0, "no such row", None))
        self.assertEqual(self.refused([a(1)], ("delete", "A", 1), ("delete", "A", 1)), (1, "no such row", None))

    def test_row_is_there(self):
        self.assertEqual(self.refused(self.ROWS, ("insert", "A", 2, [88, "y"])), (0, "row is there", None))
        self.assertEqual(self.refused([a(1), b(1)], ("move", "A", "B", 1, [None, 77, []])), (0, "row is there", None))
        self.assertEqual(self.refused([a(1)], ("insert", "B", 1, [None, None, []]), ("insert", "B", 1, [None, None, []])),
                         (1, "row is there", None))

    def test_no_such_row_comes_ahead_of_row_is_there(self):
        self.assertEqual(self.refused([b(1)], ("move", "A", "B", 1, [None, None, []])), (0, "no such row", None))

    def test_not_there(self):
        self.assertEqual(self.refused(self.ROWS, ("change", "A", 3, [(0, 5)])), (0, "not there", 5))
        self.assertEqual(self.refused(self.ROWS, ("delete", "A", 3), ("delete", "B", 1)), (1, "not there", 1))
        self.assertEqual(self.refused(self.ROWS, ("insert", "B", 4, ["x", 9, [8]])), (0, "not there", 9))
        self.assertEqual(self.refused([a(2), b(1, None, 2)], ("move", "A", "B", 2, [None, None, []])), (0, "not there", 2))

    def test_same_key(self):
        self.assertEqual(self.refused(self.ROWS, ("insert", "A", 1, [None, "x"])), (0, "same key", 1))
        self.assertEqual(self.refused([b(4, "x"), a(1)], ("insert", "B", 3, ["x", None, []])), (0, "same key", 4))
        self.assertEqual(self.refused([a(1, None, "p"), a(2, None, "q")], ("change", "A", 2, [(1, "r")]), ("change", "A", 1, [(1, "r")])),
                         (1, "same key", 2))

    def test_not_there_comes_ahead_of_same_key(self):
        self.assertEqual(self.refused(self.ROWS, ("insert", "A", 1, [66, "x"])), (0, "not there", 66))

    def test_the_first_statement_is_told(self):
        self.assertEqual(self.refused(self.ROWS, ("delete", "C", 9), ("delete", "C", 9), ("delete", "A", 2)), (1, "no such row", None))

    def test_marks_that_are_set_and_taken_away(self):
        found = self.run_on(
            [a(1, 2, "p"), a(2, 1, "q"), c(3)], ("change", "A", 1, [(0, MARK), (1, MARK)]), ("change", "A", 2, [(1, "p"), (0, MARK)]),
            ("change", "A", 1, [(1, "q"), (0, 2)]), ("change", "A", 2, [(0, 1)]), ("insert", "B", 1, [MARK, MARK, MARK]),
            ("change", "B", 1, [(0, None), (1, 1), (2, [1])]))
        self.assertEqual(found, [b(1, None, 1, [1]), a(1, 2, "q"), a(2, 1, "p"), c(3)])

    def test_marked_rows_can_be_deleted_and_moved(self):
        found = self.run_on([a(1, 1, "p"), a(2, None, "q")], ("change", "A", 1, [(1, MARK)]), ("change", "A", 2, [(1, MARK)]),
                            ("delete", "A", 1), ("move", "A", "B", 2, ["p", None, []]))
        self.assertEqual(found, [b(2, "p")])

    def test_marks_that_are_left(self):
        for statement in (("change", "A", 2, [(0, MARK)]), ("change", "A", 2, [(1, MARK)]), ("insert", "B", 4, [None, None, MARK]),
                          ("move", "A", "B", 3, [MARK, None, []])):
            with self.assertRaises(MarksLeft):
                self.run_on(self.ROWS, statement)
        self.assertEqual(self.refused(self.ROWS, ("change", "A", 2, [(0, MARK)]), ("delete", "A", 9)), (1, "no such row", None))

    def test_rows_that_are_not_in_order(self):
        for rows in ([a(1, 5)], [a(1), a(1)], [a(1, None, "x"), b(1, "x")], [a(1, MARK)]):
            with self.assertRaises(RowsOutOfOrder):
                self.run_on(rows)
            with self.assertRaises(RowsOutOfOrder):
                self.run_on(rows, ("delete", "C", 44))

    def test_cells_are_not_shared(self):
        rows = [b(1, None, None, [1])]
        cells, links = [None, None, [1]], [1]
        statements = [("insert", "B", 2, cells), ("change", "B", 1, [(2, links)])]
        found = run_statements(TABLES, rows, statements)
        self.assertEqual(found, [b(1, None, None, [1]), b(2, None, None, [1])])
        for row in found:
            row.cells[2].append(7)
        self.assertEqual((rows, cells, links), ([b(1, None, None, [1])], [None, None, [1]], [1]))
        self.assertEqual(statements, [("insert", "B", 2, [None, None, [1]]), ("change", "B", 1, [(2, [1])])])


if __name__ == "__main__":
    unittest.main()
