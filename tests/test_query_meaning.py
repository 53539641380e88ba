"""Points [101] to [103]: what paths, arithmetic, tests and totals are worth."""

import unittest

from helper import thing
from oneheap.objects.source import PictureSource
from oneheap.objects.view import View
from oneheap.queries.deeds import answer_query
from oneheap.schemas.reading import read_schema

SCHEMA = read_schema(
    "kind A { n: int -1000000000..1000000000; m: int 0..9; t: text 9; u: text 9; r: ref A or B; own: ref A; "
    "l: list A or B; a: list A; } kind B { t: text 9; l: list A; n: int 0..9; c: one of \"p\", \"q\"; }")
BLANK = {"n": None, "m": None, "t": None, "u": None, "r": None, "own": None, "l": [], "a": []}


def an_a(**contents):
    return thing("A", **{**BLANK, **contents})


class MeaningCase(unittest.TestCase):
    """Asks of object 1 of kind A, in a picture with others of kind B and with C being no kind of the lists."""

    OTHERS = {
        2: thing("B", t="two", l=[1], n=2, c="q"), 3: an_a(n=3, t="three"), 4: an_a(n=None, own=3), 5: thing("B", t=None, l=[], n=None, c=None),
        6: an_a(n=-4, own=3),
    }

    def view(self, **contents):
        return View(SCHEMA, PictureSource({1: an_a(**contents), **self.OTHERS}))

    def worth(self, term, parameters=None, **contents):
        """Return what a term is worth of object 1 with these contents."""
        lines = answer_query(self.view(**contents), f"from A o where o = :me give {term}", {"me": 1, **(parameters or {})})
        return lines[0][0]

    def true(self, test, parameters=None, **contents):
        """Return whether a test is true of object 1 with these contents."""
        lines = answer_query(self.view(**contents), f"from A o where o = :me and ({test}) give o", {"me": 1, **(parameters or {})})
        return len(lines) == 1


class PathsTest(MeaningCase):
    def test_paths(self):
        self.assertEqual(self.worth("o"), 1)
        self.assertEqual(self.worth("o.n", n=7), 7)
        self.assertEqual(self.worth("o.r", r=2), 2)
        self.assertEqual(self.worth("o.r.t", r=2), "two")
        self.assertEqual(self.worth("o.r.t", r=3), "three")
        self.assertEqual(self.worth("o.own.own.n", own=4), 3)

    def test_paths_that_come_by_none(self):
        self.assertIsNone(self.worth("o.n"))
        self.assertIsNone(self.worth("o.r.t"))
        self.assertIsNone(self.worth("o.r.t", r=5))
        self.assertIsNone(self.worth("o.own.own.n"))
        self.assertIsNone(self.worth("o.own.own.n", own=3))
        self.assertEqual(self.worth("count(o.r.l)"), 0)
        self.assertEqual(self.worth("sum(x in o.own.a: x.n)"), 0)
        self.assertIsNone(self.worth("least(x in o.r.l: x.t)"))
        self.assertFalse(self.true("some x in o.own.own.a (x = x)", own=3))
        self.assertTrue(self.true("every x in o.own.own.a (x != x)", own=3))

    def test_what_is_not_told_is_none(self):
        self.assertIsNone(self.worth("o.r", r=99))
        self.assertIsNone(self.worth("o.own", own=2))
        self.assertIsNone(self.worth("o.own.n", own=2))
        self.assertEqual(self.worth("count(o.a)", a=[2, 3, 99, 1]), 2)


class ArithmeticTest(MeaningCase):
    def test_operators(self):
        self.assertEqual(self.worth("o.n + 2 * 3 - -4", n=1), 11)
        self.assertEqual(self.worth("-(o.n - 3) * 2", n=1), 4)
        self.assertEqual(self.worth("--o.n - 1 - 1", n=5), 3)
        self.assertEqual(self.worth("10 - (4 - 3)"), 9)
        self.assertEqual(self.worth(":p - 1", {"p": 5}), 4)
        self.assertEqual(self.worth("-:p + 0", {"p": 5}), -5)

    def test_none(self):
        for term in ("o.n + 1", "1 - o.n", "o.n * 0", "-o.n", "--o.n", "0 * o.m + 1"):
            self.assertIsNone(self.worth(term))
        self.assertIsNone(self.worth(":p + 1", {"p": None}))

    def test_bounds(self):
        self.assertEqual(self.worth("1000000000000 + 0"), 10 ** 12)
        self.assertIsNone(self.worth("1000000000000 + 1"))
        self.assertEqual(self.worth("-1000000000000 - 0"), -(10 ** 12))
        self.assertIsNone(self.worth("-1000000000000 - 1"))
        self.assertEqual(self.worth("o.n * 1000", n=10 ** 9), 10 ** 12)
        self.assertIsNone(self.worth("o.n * 1001", n=10 ** 9))
        self.assertIsNone(self.worth("o.n * -1001", n=10 ** 9))
        self.assertIsNone(self.worth("1000000000000 + 1 - 1"))
        self.assertEqual(self.worth("1000000000000 - 1 + 1"), 10 ** 12)
        self.assertIsNone(self.worth("1000000000000 * 2 * 0"))
        self.assertIsNone(self.worth("-:p", {"p": 10 ** 13}))
        self.assertIsNone(self.worth("--:p", {"p": 10 ** 13}))


class TestsTest(MeaningCase):
    def test_integers(self):
        for test, wanted in (("o.n = 3", True), ("o.n = 4", False), ("o.n != 3", False), ("o.n != 4", True), ("o.n < 3", False),
                             ("o.n < 4", True), ("o.n <= 3", True), ("o.n <= 2", False), ("o.n > 3", False), ("o.n > 2", True),
                             ("o.n >= 3", True), ("o.n >= 4", False), ("2 < o.n", True)):
            self.assertIs(self.true(test, n=3), wanted, test)

    def test_objects(self):
        self.assertTrue(self.true("o.r = o", r=1))
        self.assertTrue(self.true("o.r != :p", {"p": 3}, r=1))
        self.assertFalse(self.true("o.r = o", r=2))

    def test_texts_are_compared_by_their_codes(self):
        for one, other in (("", "a"), ("a", "ab"), ("B", "a"), ("Z", "_"), ("10", "9"), (" ", "!"), ("ab", "b"), ("z", "~")):
            self.assertTrue(self.true("o.t < o.u and o.t <= o.u and o.u > o.t and o.u >= o.t and o.t != o.u", t=one, u=other), (one, other))
            self.assertFalse(self.true("o.t > o.u or o.t >= o.u or o.u < o.t or o.u <= o.t or o.t = o.u", t=one, u=other), (one, other))
        self.assertTrue(self.true("o.t = o.u and o.t <= o.u and o.t >= o.u", t="x", u="x"))
        lines = answer_query(self.view(), 'from B b where b.c = "q" and b.c > "p" give b, b.c', {})
        self.assertEqual(lines, [[2, "q"]])

    def test_none_on_either_side(self):
        for sign in ("=", "!=", "<", "<=", ">", ">="):
            self.assertFalse(self.true(f"o.n {sign} 0"), sign)
            self.assertFalse(self.true(f"0 {sign} o.n"), sign)
            self.assertIs(self.true(f"o.n {sign} o.m"), sign == "=", sign)
            self.assertIs(self.true(f"o.n {sign} :p", {"p": None}), sign == "=", sign)
        for sign in ("=", "!=", "<", "<=", ">", ">=", "starts", "holds"):
            self.assertFalse(self.true(f'o.t {sign} ""'), sign)
            self.assertFalse(self.true(f'"" {sign} o.t'), sign)
            self.assertIs(self.true(f"o.t {sign} o.u"), sign == "=", sign)
        self.assertFalse(self.true("o.r != o"))
        self.assertTrue(self.true("o.r = :p", {"p": None}))
        self.assertTrue(self.true("not o.n != 1"))

    def test_is_null(self):
        for term in ("o.n", "o.t", "o.r", "o.r.t", "o.n + 1", "o.own.own"):
            self.assertTrue(self.true(f"{term} is null"), term)
            self.assertFalse(self.true(f"{term} is not null"), term)
        self.assertFalse(self.true("o.n is null", n=0))
        self.assertTrue(self.true("o.n is not null", n=0))
        self.assertTrue(self.true("o.t is not null and o is not null", t=""))
        self.assertTrue(self.true("o.r is null", r=99))

    def test_in(self):
        self.assertTrue(self.true("o.n in (1, 2, 3)", n=3))
        self.assertFalse(self.true("o.n in (1, 2)", n=3))
        self.assertTrue(self.true("o.n in (o.m, o.m + 1)", n=3, m=2))
        self.assertFalse(self.true("o.n in (1, 2)"))
        self.assertTrue(self.true("o.n in (1, o.m)"))
        self.assertFalse(self.true("o.n in (1, o.m)", n=3))
        self.assertTrue(self.true('o.t in ("a", :p)', {"p": "b"}, t="b"))
        self.assertTrue(self.true("o.r in (:p, o)", {"p": None}, r=1))

    def test_starts_and_holds(self):
        for text, other, starts, holds in (("abc", "ab", True, True), ("abc", "bc", False, True), ("abc", "", True, True),
                                           ("abc", "abc", True, True), ("abc", "abcd", False, False), ("abc", "AB", False, False),
                                           ("", "", True, True), ("", "a", False, False)):
            self.assertIs(self.true("o.t starts :p", {"p": other}, t=text), starts, (text, other))
            self.assertIs(self.true("o.t holds :p", {"p": other}, t=text), holds, (text, other))

    def test_and_or_not(self):
        yes, no = "1 = 1", "1 = 2"
        for test, wanted in ((f"{yes} and {no}", False), (f"{yes} or {no}", True), (f"not {no}", True), (f"not not {no}", False),
                             (f"not not not {no}", True), (f"{yes} or {no} and {no}", True), (f"({yes} or {no}) and {no}", False),
                             (f"not {yes} or {yes}", True), (f"not ({yes} or {yes})", False), (f"{no} or {no} or {yes}", True),
                             (f"{yes} and {yes} and {no}", False)):
            self.assertIs(self.true(test), wanted, test)


class ListsTest(MeaningCase):
    def test_some_and_every(self):
        lists = {"a": [3, 4, 6]}
        for test, wanted in (("some x in o.a (x.n > 0)", True), ("some x in o.a (x.n > 3)", False), ("every x in o.a (x.n > -9)", False),
                             ("every x in o.a (x.n is null or x.n > -9)", True), ("some x in o.a (x.own = :p)", True),
                             ("every x in o.a (x.own = :p)", False), ("not every x in o.a (x.own = :p)", True),
                             ("some x in o.a (x.own.n = 3)", True), ("some x in o.a (x = o)", False)):
            self.assertIs(self.true(test, {"p": 3} if ":p" in test else {}, **lists), wanted, test)

    def test_empty_lists(self):
        for contents in ({}, {"a": [99, 2]}):
            self.assertFalse(self.true("some x in o.a (1 = 1)", **contents))
            self.assertTrue(self.true("every x in o.a (1 = 2)", **contents))

    def test_lists_within_lists(self):
        self.assertTrue(self.true("some x in o.l (some y in x.l (y = o))", l=[3, 2]))
        self.assertFalse(self.true("some x in o.l (some y in x.l (y = o))", l=[3, 5]))
        self.assertEqual(self.worth("sum(x in o.l: count(x.l) + sum(y in x.l: y.n))", l=[2, 1], n=4), 1 + 4 + 2 + 2 + 4)

    def test_count(self):
        self.assertEqual(self.worth("count(o.l)", l=[2, 3, 99, 1]), 3)
        self.assertEqual(self.worth("count(o.l)"), 0)
        self.assertEqual(self.worth("count(o.r.l)", r=2), 1)

    def test_totals(self):
        self.assertEqual(self.worth("sum(x in o.a: x.n)", a=[3, 4, 6]), -1)
        self.assertEqual(self.worth("least(x in o.a: x.n)", a=[3, 4, 6]), -4)
        self.assertEqual(self.worth("greatest(x in o.a: x.n)", a=[3, 4, 6]), 3)
        self.assertEqual(self.worth("least(x in o.l: x.t)", l=[2, 3, 4]), "three")
        self.assertEqual(self.worth("greatest(x in o.l: x.t)", l=[2, 3, 4]), "two")
        self.assertEqual(self.worth("sum(x in o.a: 2 * x.n + :p)", {"p": 1}, a=[3, 6]), 0)

    def test_totals_of_nothing(self):
        for contents in ({}, {"a": [4]}, {"a": [99]}):
            self.assertEqual(self.worth("sum(x in o.a: x.n)", **contents), 0)
            self.assertIsNone(self.worth("least(x in o.a: x.n)", **contents))
            self.assertIsNone(self.worth("greatest(x in o.a: x.n)", **contents))

    def test_a_sum_that_is_too_great_as_a_whole(self):
        self.assertIsNone(self.worth("sum(x in o.a: 600000000000)", a=[3, 4]))
        self.assertEqual(self.worth("sum(x in o.a: 500000000000)", a=[3, 4]), 10 ** 12)
        self.assertIsNone(self.worth("sum(x in o.a: -600000000000)", a=[3, 4]))
        # On the way the sum may go beyond the bounds.
        self.assertEqual(self.worth("sum(x in o.a: 250000000000 * x.n)", a=[3, 1, 6], n=3), 5 * 10 ** 11)


if __name__ == "__main__":
    unittest.main()
