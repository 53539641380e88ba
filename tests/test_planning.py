"""Points [91] and [92]: plans, and what they lead to."""

import random
import unittest

from oneheap.errors import CannotMove, NumberTwice, RowsOutOfOrder
from oneheap.planner.planning import plan_rows
from oneheap.store.rows import MARK, Row, sorted_rows
from oneheap.store.tables import Column, StoreKey, Table
from oneheap.store.transactions import are_in_order, run_statements
from test_order import TABLES, a, b, p


class PlanTest(unittest.TestCase):
    def check(self, rows, wanted, *statements):
        plan = plan_rows(TABLES, rows, wanted)
        self.assertEqual(plan, list(statements))
        self.assertEqual(run_statements(TABLES, rows, plan), sorted_rows(TABLES, wanted))

    def test_nothing_to_do(self):
        self.check([], [])
        self.check([a(1, 1, "x", [1])], [a(1, 1, "x", [1])])

    def test_by_numbers_where_nothing_goes_ahead(self):
        self.check([a(2), b(3, "x")], [a(1), b(3, "y")], ("insert", "A", 1, [None, None, []]), ("delete", "A", 2), ("change", "B", 3, [(0, "y")]))

    def test_inserts_ahead_of_what_takes_their_numbers(self):
        self.check([a(4)], [a(1, 3), a(2, 1), a(3), a(4, 2)], ("insert", "A", 3, [None, None, []]), ("insert", "A", 1, [3, None, []]),
                   ("insert", "A", 2, [1, None, []]), ("change", "A", 4, [(0, 2)]))

    def test_the_first_need_that_can_be_made_is_made_next(self):
        self.check([], [a(1, 4), a(2), a(3), a(4)], ("insert", "A", 2, [None, None, []]), ("insert", "A", 3, [None, None, []]),
                   ("insert", "A", 4, [None, None, []]), ("insert", "A", 1, [4, None, []]))

    def test_a_main_row_ahead_of_its_part(self):
        self.check([], [p(1, 1), a(1)], ("insert", "A", 1, [None, None, []]), ("insert", "P", 1, [1, [], None]))
        self.check([p(1, 1), a(1)], [], ("delete", "P", 1), ("delete", "A", 1))

    def test_a_move_keeps_what_refers_to_it(self):
        self.check([a(1, None, "x"), a(2, 1)], [b(1, "x", 2), a(2, 1)], ("move", "A", "B", 1, ["x", 2]))

    def test_a_ring_of_inserts(self):
        self.check([], [a(1, 2, "k", [2, 1]), a(2, 1, "m")], ("insert", "A", 1, [MARK, MARK, MARK]), ("insert", "A", 2, [1, "m", []]),
                   ("change", "A", 1, [(0, 2), (1, "k"), (2, [2, 1])]))

    def test_a_freed_insert_has_no_marks_for_nothing(self):
        self.check([], [a(1, None, None, [2]), a(2, 1)], ("insert", "A", 1, [None, None, MARK]), ("insert", "A", 2, [1, None, []]),
                   ("change", "A", 1, [(2, [2])]))

    def test_a_freed_insert_of_a_row_with_values(self):
        tables = [Table("A", [Column("r", "reference", ["A"]), Column("v", "value")])]
        rows = [Row("A", 1, [2, "v"]), Row("A", 2, [1, "w"])]
        self.assertEqual(plan_rows(tables, [], rows), [("insert", "A", 1, [MARK, "v"]), ("insert", "A", 2, [1, "w"]), ("change", "A", 1, [(0, 2)])])

    def test_a_ring_of_deletes(self):
        self.check([a(1, 2, "k", []), a(2, 1, "m")], [], ("change", "A", 1, [(0, MARK), (1, MARK)]), ("delete", "A", 2), ("delete", "A", 1))

    def test_a_ring_of_changes(self):
        self.check([a(1, 3, "x", [3]), a(2, None, "y"), a(3)], [a(1, 3, "y"), a(2, None, "x"), a(3)],
                   ("change", "A", 1, [(1, MARK), (2, MARK)]), ("change", "A", 2, [(1, "x")]), ("change", "A", 1, [(1, "y"), (2, [])]))

    def test_a_ring_of_moves(self):
        self.check([a(1, 3, "x"), b(2, "y"), a(3)], [b(1, "y", 3), a(2, None, "x"), a(3)],
                   ("change", "A", 1, [(0, MARK), (1, MARK)]), ("move", "B", "A", 2, [None, "x", []]), ("move", "A", "B", 1, ["y", 3]))

    def test_three_parts(self):
        self.check([a(3, None, "x"), a(4, None, "y")], [a(1, 2), a(2, 1), a(3, None, "y"), a(4, None, "x")],
                   ("change", "A", 3, [(1, MARK)]), ("insert", "A", 1, [MARK, None, []]), ("insert", "A", 2, [1, None, []]),
                   ("change", "A", 4, [(1, "x")]), ("change", "A", 3, [(1, "y")]), ("change", "A", 1, [(0, 2)]))

    def test_rows_out_of_order(self):
        good = [a(1)]
        for bad in ([a(1, 5)], [a(1, None, "x"), b(2, "x")], [a(1, MARK)], [a(1), a(1)]):
            for rows, wanted in ((bad, good), (good, bad)):
                with self.assertRaises(RowsOutOfOrder):
                    plan_rows(TABLES, rows, wanted)

    def test_the_errors_of_needs_come_behind(self):
        with self.assertRaises(NumberTwice) as caught:
            plan_rows(TABLES, [a(1), b(1), a(2), b(2)], [])
        self.assertEqual(caught.exception.number, 1)
        with self.assertRaises(RowsOutOfOrder):
            plan_rows(TABLES, [a(1), b(1)], [a(1, 8)])
        tables = TABLES + [Table("C", [Column("r", "reference", ["A"])])]
        with self.assertRaises(CannotMove) as caught:
            plan_rows(tables, [a(1), a(2)], [b(1), b(2)])
        self.assertEqual(caught.exception.number, 1)

    def test_nothing_is_shared(self):
        rows, wanted = [a(1, None, None, [1])], [a(1), a(2, None, None, [1])]
        plan = plan_rows(TABLES, rows, wanted)
        self.assertEqual(plan, [("change", "A", 1, [(2, [])]), ("insert", "A", 2, [None, None, [1]])])
        plan[0][3][0][1].append(5)
        plan[1][3][2].append(5)
        self.assertEqual((rows, wanted), ([a(1, None, None, [1])], [a(1), a(2, None, None, [1])]))


class DrawnTest(unittest.TestCase):
    """Rows in order are drawn twice; the plan leads from the ones to the others."""

    def rows(self, rnd, most):
        numbers = rnd.sample(range(1, most + 1), rnd.randint(0, most))
        keys = rnd.sample(range(most + 2), most + 2)
        holders = rnd.sample(numbers, len(numbers))
        rows = []
        for number in range(1, most + 1):
            one = rnd.choice(numbers) if numbers and rnd.random() < 0.6 else None
            key = keys.pop() if rnd.random() < 0.7 else None
            links = rnd.sample(numbers, rnd.randint(0, min(2, len(numbers))))
            alone = holders.pop() if holders and rnd.random() < 0.6 else None
            if number in numbers:
                rows.append(a(number, alone, key, links) if rnd.random() < 0.5 else b(number, key, one))
            if rnd.random() < 0.4:
                rows.append(p(number, one, links, holders.pop() if holders and rnd.random() < 0.5 else None))
        rnd.shuffle(rows)
        return rows

    def test_plans_lead_to_the_wanted_rows(self):
        marked = 0
        for seed in range(400):
            rnd = random.Random(seed)
            most = rnd.randint(1, 6)
            rows, wanted = self.rows(rnd, most), self.rows(rnd, most)
            self.assertTrue(are_in_order(TABLES, rows) and are_in_order(TABLES, wanted))
            plan = plan_rows(TABLES, rows, wanted)
            self.assertEqual(run_statements(TABLES, rows, plan), sorted_rows(TABLES, wanted))
            marked += "mark" in str(plan)
        self.assertGreater(marked, 40)


if __name__ == "__main__":
    unittest.main()
