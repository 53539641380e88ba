"""Points [83] to [86]: needs between rows that are there and rows that are wanted, and their statements."""

import random
import unittest

from oneheap.errors import CannotMove, NumberTwice
from oneheap.planner.needs import Need, needs_of, statement_of
from oneheap.store.rows import Row
from oneheap.store.tables import Column, StoreKey, Table

MAINS = ["A", "B"]
TABLES = [
    Table("B", [Column("k", "value"), Column("r", "reference", MAINS)], [StoreKey("k", [0])]),
    Table("B#2", [Column("l", "links", MAINS)]),
    Table("A", [Column("r", "reference", MAINS), Column("k", "value"), Column("v", "value")], [StoreKey("k", [1])]),
    Table("A#2", [Column("v", "value")]),
]


class NeedTest(unittest.TestCase):
    def test_fields(self):
        before, behind = Row("A", 5, [None, 1, 2]), Row("B", 5, [1, None])
        need = Need(before, behind)
        self.assertEqual((need.before, need.behind, need.table, need.number), (before, behind, "B", 5))
        need = Need(before, None)
        self.assertEqual((need.before, need.behind, need.table, need.number), (before, None, "A", 5))
        need = Need(None, behind)
        self.assertEqual((need.before, need.behind, need.table, need.number), (None, behind, "B", 5))

    def test_equal(self):
        need = Need(Row("A", 5, [1]), Row("A", 5, [2]))
        self.assertTrue(need == Need(Row("A", 5, [1]), Row("A", 5, [2])))
        for other in (Need(Row("A", 5, [1]), None), Need(None, Row("A", 5, [2])), Need(Row("A", 5, [2]), Row("A", 5, [2])),
                      Need(Row("A", 5, [1]), Row("A", 5, [1])), Need(Row("A", 6, [1]), Row("A", 6, [2])), None, "need"):
            self.assertFalse(need == other)

    def test_rows_are_not_shared(self):
        row = Row("B#2", 5, [[1]])
        need = Need(row, row)
        row.cells[0].append(2)
        self.assertEqual((need.before.cells, need.behind.cells), ([[1]], [[1]]))


class NeedsTest(unittest.TestCase):
    def needs(self, rows, wanted):
        return needs_of(TABLES, rows, wanted)

    def test_inserted(self):
        row = Row("A", 5, [None, "x", 3])
        self.assertEqual(self.needs([], [row]), [Need(None, row)])

    def test_deleted(self):
        row = Row("A", 5, [None, "x", 3])
        self.assertEqual(self.needs([row], []), [Need(row, None)])

    def test_changed_and_staying(self):
        there = [Row("A", 5, [None, "x", 3]), Row("A", 6, [5, None, 3]), Row("B#2", 6, [[5, 6]])]
        wanted = [Row("B#2", 6, [[6, 5]]), Row("A", 6, [5, None, 3]), Row("A", 5, [None, "y", 3])]
        self.assertEqual(self.needs(there, wanted), [Need(there[0], wanted[2]), Need(there[2], wanted[0])])
        self.assertEqual(self.needs(there, list(reversed(there))), [])
        self.assertEqual(self.needs([], []), [])

    def test_moved_with_parts(self):
        there = [Row("A", 5, [None, "x", 3]), Row("A#2", 5, [1])]
        wanted = [Row("B", 5, ["x", None]), Row("B#2", 5, [[5]])]
        self.assertEqual(self.needs(there, wanted), [Need(there[0], wanted[0]), Need(None, wanted[1]), Need(there[1], None)])
        self.assertEqual(self.needs(wanted, there), [Need(wanted[1], None), Need(wanted[0], there[0]), Need(None, there[1])])

    def test_rows_of_parts_are_never_moved(self):
        there, wanted = [Row("A#2", 5, [1])], [Row("B#2", 5, [[]])]
        self.assertEqual(self.needs(there, wanted), [Need(None, wanted[0]), Need(there[0], None)])

    def test_order(self):
        rows = [Row("A", 5, [None, None, None]), Row("B", 10, [None, None]), Row("A#2", 10, [1]), Row("B#2", 10, [[]]),
                Row("A", 2, [None, None, None]), Row("B#2", 5, [[]])]
        wanted = [("A", 2), ("B#2", 5), ("A", 5), ("B", 10), ("B#2", 10), ("A#2", 10)]
        for seed in range(5):
            random.Random(seed).shuffle(rows)
            self.assertEqual([(need.table, need.number) for need in self.needs(rows, [])], wanted)
            self.assertEqual([(need.table, need.number) for need in self.needs([], rows)], wanted)

    def test_a_move_stands_at_the_wanted_table(self):
        there = [Row("A", 5, [None, None, None]), Row("B#2", 5, [[]])]
        wanted = [Row("B", 5, [None, None])]
        self.assertEqual([(need.table, need.before.table) for need in self.needs(there, wanted)], [("B", "A"), ("B#2", "B#2")])

    def test_a_number_twice(self):
        one, other = Row("A", 5, [None, None, None]), Row("B", 5, [None, None])
        more = [Row("A", 3, [None, None, None]), Row("B", 3, [None, None])]
        for rows, wanted, number in (([one, other], [], 5), ([], [other, one], 5), ([one, other] + more, [], 3),
                                     ([one, other], more, 5), ([], more + [one, other], 3)):
            with self.assertRaises(NumberTwice) as caught:
                self.needs(rows, wanted)
            self.assertEqual(caught.exception.number, number)
        self.needs([one, Row("B#2", 5, [[]]), Row("A#2", 5, [1])], [])

    def test_what_cannot_move(self):
        tables = TABLES + [Table("C", [Column("r", "reference", ["A", "C"])])]
        a5, b5, c7 = Row("A", 5, [None, None, None]), Row("B", 5, [None, None]), Row("C", 7, [None])
        rows = [Row("A", 9, [None, None, None]), a5, c7]
        with self.assertRaises(CannotMove) as caught:
            needs_of(tables, rows, [Row("B", 9, [None, None]), b5, c7])
        self.assertEqual(caught.exception.number, 5)
        with self.assertRaises(CannotMove) as caught:
            needs_of(tables, [c7], [Row("B", 7, [None, None])])
        self.assertEqual(caught.exception.number, 7)
        self.assertEqual(needs_of(tables, [a5], []), [Need(a5, None)])
        with self.assertRaises(CannotMove):
            needs_of(tables, [Row("C", 7, [7])], [Row("A", 7, [None, None, None])])

    def test_a_number_twice_comes_ahead_of_what_cannot_move(self):
        tables = TABLES + [Table("C", [Column("r", "reference", ["C"])])]
        a2, c2 = Row("A", 2, [None, None, None]), Row("C", 2, [None])
        twice = [Row("A", 9, [None, None, None]), Row("B", 9, [None, None])]
        for rows, wanted in (([a2] + twice, [c2]), ([a2], [c2] + twice)):
            with self.assertRaises(NumberTwice) as caught:
                needs_of(tables, rows, wanted)
            self.assertEqual(caught.exception.number, 9)

    def test_tables_that_no_column_refers_to_are_no_main_tables(self):
        tables = [Table("A", [Column("v", "value")]), Table("B", [Column("v", "value")])]
        one, other = Row("A", 5, [1]), Row("B", 5, [1])
        self.assertEqual(needs_of(tables, [one, other], []), [Need(one, None), Need(other, None)])
        self.assertEqual(needs_of(tables, [one], [other]), [Need(one, None), Need(None, other)])

    def test_nothing_is_shared(self):
        there, wanted = [Row("B#2", 5, [[1]])], [Row("B#2", 5, [[2]])]
        need = self.needs(there, wanted)[0]
        need.before.cells[0].append(7)
        need.behind.cells[0].append(7)
        self.assertEqual((there, wanted), ([Row("B#2", 5, [[1]])], [Row("B#2", 5, [[2]])]))


class StatementTest(unittest.TestCase):
    def test_each_sort(self):
        one, other = Row("A", 5, [None, "x", 3]), Row("B", 5, ["x", 5])
        self.assertEqual(statement_of(Need(None, one)), ("insert", "A", 5, [None, "x", 3]))
        self.assertEqual(statement_of(Need(one, None)), ("delete", "A", 5))
        self.assertEqual(statement_of(Need(one, other)), ("move", "A", "B", 5, ["x", 5]))
        self.assertEqual(statement_of(Need(one, Row("A", 5, [4, "x", None]))), ("change", "A", 5, [(0, 4), (2, None)]))
        self.assertEqual(statement_of(Need(one, Row("A", 5, [None, "y", 3]))), ("change", "A", 5, [(1, "y")]))

    def test_cells_are_not_shared(self):
        for need in (Need(None, Row("B#2", 5, [[1]])), Need(Row("B#2", 5, [[2]]), Row("B#2", 5, [[1]])),
                     Need(Row("A", 5, [2]), Row("B#2", 5, [[1]]))):
            cells = statement_of(need)[-1]
            links = cells[0][1] if statement_of(need)[0] == "change" else cells[0]
            self.assertEqual(links, [1])
            links.append(4)
            cells.append(5)
            self.assertEqual(need.behind, Row("B#2", 5, [[1]]))


if __name__ == "__main__":
    unittest.main()
