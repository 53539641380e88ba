"""Points [66] to [70]: tables and rows."""

import unittest

from oneheap.store.rows import MARK, Row, key_value, sorted_rows
from oneheap.store.tables import Column, StoreKey, Table, table_named


class TablesTest(unittest.TestCase):
    def test_column(self):
        targets = ["A", "B"]
        column = Column("writer", "reference", targets)
        targets.append("C")
        self.assertEqual((column.name, column.role, column.targets), ("writer", "reference", ["A", "B"]))
        self.assertEqual(Column("n", "value").targets, [])
        Column("n", "value").targets.append("A")
        self.assertEqual(Column("n", "value").targets, [])

    def test_equal_columns(self):
        column = Column("a", "links", ["A", "B"])
        self.assertTrue(column == Column("a", "links", ("A", "B")))
        for other in (Column("b", "links", ["A", "B"]), Column("a", "reference", ["A", "B"]), Column("a", "links", ["B", "A"]),
                      Column("a", "links"), ("a", "links", ["A", "B"]), None):
            self.assertFalse(column == other)

    def test_key(self):
        places = [0, 2]
        key = StoreKey("k", places)
        places.append(3)
        self.assertEqual((key.name, key.places), ("k", [0, 2]))
        self.assertTrue(key == StoreKey("k", (0, 2)))
        for other in (StoreKey("l", [0, 2]), StoreKey("k", [2, 0]), ("k", [0, 2]), None):
            self.assertFalse(key == other)

    def test_table(self):
        columns, unique = [Column("a", "value")], [StoreKey("k", [0])]
        table = Table("T", columns, unique)
        columns.append(Column("b", "value"))
        unique.append(StoreKey("l", [1]))
        columns[0].targets.append("T")
        unique[0].places.append(1)
        self.assertEqual((table.name, table.columns, table.unique), ("T", [Column("a", "value")], [StoreKey("k", [0])]))
        Table("T", []).unique.append(1)
        self.assertEqual(Table("T", []).unique, [])

    def test_equal_tables(self):
        table = Table("T", [Column("a", "value")], [StoreKey("k", [0])])
        self.assertTrue(table == Table("T", (Column("a", "value"),), (StoreKey("k", [0]),)))
        for other in (Table("S", [Column("a", "value")], [StoreKey("k", [0])]), Table("T", [], [StoreKey("k", [0])]),
                      Table("T", [Column("a", "value")]), Table("T", [Column("a", "value")], [StoreKey("k", [1])]), "T", None):
            self.assertFalse(table == other)

    def test_table_named(self):
        tables = [Table("A", []), Table("B", [Column("a", "value")])]
        self.assertIs(table_named(tables, "B"), tables[1])
        self.assertIs(table_named(tables, "A"), tables[0])
        self.assertIsNone(table_named(tables, "C"))
        self.assertIsNone(table_named([], "A"))


class RowsTest(unittest.TestCase):
    def test_mark(self):
        self.assertIsInstance(MARK, tuple)
        self.assertEqual([one.__class__ for one in MARK], [str])

    def test_row(self):
        cells = [1, "a", None, MARK, [3, 4]]
        row = Row("T", 7, cells)
        self.assertEqual((row.table, row.number, row.cells), ("T", 7, [1, "a", None, MARK, [3, 4]]))
        cells[4].append(5)
        cells[0] = 9
        self.assertEqual(row.cells, [1, "a", None, MARK, [3, 4]])
        row.cells[4].append(6)
        self.assertEqual(cells, [9, "a", None, MARK, [3, 4, 5]])

    def test_equal(self):
        row = Row("T", 7, [1, [3, 4], MARK])
        self.assertTrue(row == Row("T", 7, (1, [3, 4], MARK)))
        for other in (Row("S", 7, [1, [3, 4], MARK]), Row("T", 8, [1, [3, 4], MARK]), Row("T", 7, [1, [4, 3], MARK]),
                      Row("T", 7, [1, [3, 4], None]), Row("T", 7, [1, [3, 4]]), ("T", 7, [1, [3, 4], MARK]), None):
            self.assertFalse(row == other)

    def test_sorted_rows(self):
        tables = [Table("B", []), Table("A", []), Table("C", [])]
        rows = [Row("A", 2, []), Row("B", 11, []), Row("A", 1, []), Row("B", 2, []), Row("A", 10, [])]
        found = sorted_rows(tables, rows)
        self.assertEqual([(row.table, row.number) for row in found], [("B", 2), ("B", 11), ("A", 1), ("A", 2), ("A", 10)])
        found.pop()
        self.assertEqual(rows, [Row("A", 2, []), Row("B", 11, []), Row("A", 1, []), Row("B", 2, []), Row("A", 10, [])])
        self.assertEqual([table.name for table in tables], ["B", "A", "C"])
        self.assertEqual(sorted_rows(tables, []), [])

    def test_key_value(self):
        table = Table("T", [Column("a", "value"), Column("b", "reference", ["T"]), Column("c", "value")])
        cells = [1, 5, "x"]
        self.assertEqual(key_value(table, StoreKey("k", [2, 1]), cells), (("value", "x"), ("reference", 5)))
        self.assertEqual(key_value(table, StoreKey("k", [0]), cells), (("value", 1),))
        self.assertEqual(key_value(table, StoreKey("k", [0]), [0, None, None]), (("value", 0),))
        self.assertEqual(key_value(table, StoreKey("k", [2]), [None, None, ""]), (("value", ""),))
        self.assertEqual(cells, [1, 5, "x"])

    def test_no_key_value(self):
        table = Table("T", [Column("a", "value"), Column("b", "reference", ["T"]), Column("c", "value")])
        for cells in ([None, 5, "x"], [1, None, "x"], [MARK, 5, "x"], [1, MARK, "x"], [None, None, "x"], [MARK, None, "x"]):
            self.assertIsNone(key_value(table, StoreKey("k", [0, 1]), cells), cells)
            self.assertEqual(key_value(table, StoreKey("k", [2]), cells), (("value", "x"),))


if __name__ == "__main__":
    unittest.main()
