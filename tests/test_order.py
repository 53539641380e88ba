"""Points [87] to [90]: which needs go ahead of others, rings, and what is freed."""

import random
import unittest

from oneheap.planner.needs import Need
from oneheap.planner.order import freed_of, goes_ahead
from oneheap.store.rows import Row
from oneheap.store.tables import Column, StoreKey, Table

MAINS = ["A", "B"]
TABLES = [
    Table("A", [Column("r", "reference", MAINS), Column("k", "value"), Column("l", "links", MAINS)],
          [StoreKey("k", [1]), StoreKey("q", [0])]),
    Table("B", [Column("k", "value"), Column("r", "reference", MAINS)], [StoreKey("k", [0])]),
    Table("P", [Column("r", "reference", MAINS), Column("l", "links", MAINS), Column("q", "reference", MAINS)], [StoreKey("q", [2])]),
]


def a(number, r=None, k=None, links=()):
    return Row("A", number, [r, k, list(links)])


def b(number, k=None, r=None):
    return Row("B", number, [k, r])


def p(number, r=None, links=(), q=None):
    return Row("P", number, [r, list(links), q])


class AheadTest(unittest.TestCase):
    def check(self, first, second, wanted=(True, False)):
        self.assertEqual((goes_ahead(TABLES, first, second), goes_ahead(TABLES, second, first)), wanted)

    def test_an_insert_goes_ahead_of_what_takes_its_number(self):
        for row in (a(5), b(5)):
            made = Need(None, row)
            self.check(made, Need(a(1), a(1, 5)))
            self.check(made, Need(a(1), a(1, None, None, [5])))
            self.check(made, Need(None, a(1, 5)))
            self.check(made, Need(a(1, 7), b(1, None, 5)))
            self.check(made, Need(None, p(5, 5)))
            self.check(made, Need(p(5), p(5, None, [4, 5])))

    def test_what_has_the_number_already_takes_nothing(self):
        made = Need(None, a(5))
        self.check(made, Need(a(1, 5), a(1, None, None, [5])), (False, False))
        self.check(made, Need(a(1, 5), b(1, None, 5)), (False, False))
        self.check(made, Need(a(1, 5), None), (False, False))
        self.check(made, Need(a(1, 4), a(1, 6)), (False, False))

    def test_an_insert_into_a_part_goes_ahead_of_nothing(self):
        self.check(Need(None, p(5)), Need(a(1), a(1, 5)), (False, False))

    def test_what_lets_go_goes_ahead_of_a_delete(self):
        for row in (a(5), b(5)):
            gone = Need(row, None)
            self.check(Need(a(1, 5), a(1)), gone)
            self.check(Need(a(1, None, None, [3, 5]), a(1, None, None, [3])), gone)
            self.check(Need(a(1, 5), None), gone)
            self.check(Need(a(1, 5), b(1)), gone)
            self.check(Need(p(5, 5), None), gone)

    def test_what_keeps_the_number_lets_go_of_nothing(self):
        gone = Need(a(5), None)
        self.check(Need(a(1, 5), a(1, None, None, [5])), gone, (False, False))
        self.check(Need(a(1), a(1, 5)), gone, (False, False))
        self.check(Need(None, a(1, 5)), gone, (False, False))

    def test_a_delete_from_a_part_waits_for_nothing(self):
        self.check(Need(a(1, 5), a(1)), Need(p(5), None), (False, False))

    def test_values_of_keys(self):
        self.check(Need(a(1, None, "x"), a(1)), Need(a(2), a(2, None, "x")))
        self.check(Need(a(1, None, "x"), a(1, None, "y")), Need(None, a(2, None, "x")))
        self.check(Need(a(1, None, "x"), None), Need(a(2, None, "z"), b(2, "x")))
        self.check(Need(a(1, None, "x"), a(1)), Need(None, a(2, None, "X")), (False, False))
        self.check(Need(a(1, None, "x"), a(1, None, "y")), Need(a(2, None, "y"), a(2, None, "x")), (True, True))

    def test_values_of_keys_that_two_tables_share(self):
        self.check(Need(a(1, None, "x"), None), Need(None, b(2, "x")))
        self.check(Need(b(1, "x"), b(1)), Need(a(2), a(2, None, "x")))
        self.check(Need(a(1, None, "x"), b(1, "x")), Need(None, b(2, "x")), (False, False))
        self.check(Need(a(1, 9), a(1)), Need(p(2), p(2, None, [], 9)))

    def test_a_value_that_is_kept_is_not_let_go(self):
        self.check(Need(a(1, None, "x"), a(1, 5, "x")), Need(None, a(2, None, "x")), (False, False))
        self.check(Need(a(1, None, "x"), a(1)), Need(b(2, "x"), a(2, 7, "x")), (False, False))

    def test_a_need_and_itself(self):
        for need in (Need(None, a(5, 5)), Need(a(5, 5), None), Need(a(5, None, "x"), a(5, None, "y"))):
            self.assertIs(goes_ahead(TABLES, need, need), False)
            self.assertIs(goes_ahead(TABLES, need, Need(need.before, need.behind)), False)


class FreedTest(unittest.TestCase):
    def freed(self, *needs):
        found = freed_of(TABLES, list(needs))
        places = list(range(len(needs)))
        random.Random(len(needs)).shuffle(places)
        mixed = freed_of(TABLES, [needs[place] for place in places])
        self.assertEqual(sorted(places[place] for place in mixed), found)
        self.assertEqual(mixed, sorted(mixed))
        return found

    def test_no_rings(self):
        self.assertEqual(self.freed(), [])
        self.assertEqual(self.freed(Need(None, a(1)), Need(None, a(2, 1)), Need(a(3, 4), None), Need(a(4), None)), [])
        self.assertEqual(self.freed(Need(None, a(1, 1, "x", [1]))), [])
        self.assertEqual(self.freed(Need(a(1, 1), None)), [])

    def test_a_ring_of_two_inserts(self):
        self.assertEqual(self.freed(Need(None, a(1, 2)), Need(None, a(2, 1))), [0])

    def test_a_ring_of_two_deletes(self):
        self.assertEqual(self.freed(Need(a(1, 2), None), Need(a(2, None, None, [1]), None)), [0])

    def test_a_ring_of_two_changes(self):
        self.assertEqual(self.freed(Need(a(1, None, "x"), a(1, None, "y")), Need(a(2, None, "y"), a(2, None, "x"))), [0])

    def test_a_ring_of_two_moves(self):
        self.assertEqual(self.freed(Need(a(1, None, "x"), b(1, "y")), Need(b(2, "y"), a(2, None, "x"))), [0])

    def test_a_ring_of_three(self):
        self.assertEqual(self.freed(Need(None, a(1, 2)), Need(None, a(2, 3)), Need(None, a(3, 1))), [0])
        self.assertEqual(self.freed(Need(None, a(1)), Need(a(2, None, "x"), a(2, None, "y")), Need(a(3, None, "y"), b(3, "z")),
                                    Need(b(4, "z"), b(4, "x"))), [1])

    def test_two_rings(self):
        self.assertEqual(self.freed(Need(None, a(1, 3)), Need(None, a(2, 4)), Need(None, a(3, 1)), Need(None, a(4, 2))), [0, 1])
        self.assertEqual(self.freed(Need(None, a(1, 2)), Need(None, a(2, 1)), Need(a(3, 4), None), Need(a(4, 3), None)), [0, 2])

    def test_two_rings_through_one_need(self):
        self.assertEqual(self.freed(Need(None, a(1, 2)), Need(None, a(2, 1, None, [3])), Need(None, a(3, 2))), [0, 1])
        self.assertEqual(self.freed(Need(None, a(1, 2, None, [3])), Need(None, a(2, 1)), Need(None, a(3, 1))), [0])

    def test_what_is_freed_goes_ahead_of_nothing_and_the_other_waits_for_nothing(self):
        # The change frees the value "x" for the insert, and the insert brings the number that the change takes.
        self.assertEqual(self.freed(Need(a(1, None, "x"), a(1, 2)), Need(None, a(2, None, "x"))), [0])
        self.assertEqual(self.freed(Need(None, a(1, None, "x")), Need(a(2, None, "x"), a(2, 1))), [0])
        self.assertEqual(self.freed(Need(a(1, 3, "x"), b(1)), Need(None, a(2, None, "x")), Need(a(3, None, "y"), None)), [])

    def test_the_order_of_the_tables(self):
        self.assertEqual(self.freed(Need(a(1, None, "x"), None), Need(p(1), p(1))), [])
        needs = [Need(a(2, 5, None, [6]), a(2, 6, None, [5])), Need(p(2, None, [], 6), p(2, None, [], 5))]
        self.assertEqual(self.freed(*needs), [0])


if __name__ == "__main__":
    unittest.main()
