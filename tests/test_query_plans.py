"""Points [107] and [108]: plans and candidates."""

import random
import unittest

from helper import thing
from oneheap.errors import Fault
from oneheap.objects.source import PictureSource
from oneheap.objects.view import View
from oneheap.queries.deeds import answer_query
from oneheap.queries.lines import lines_by
from oneheap.queries.plans import candidates, plan_text
from oneheap.queries.reading import read_query
from oneheap.schemas.reading import read_schema

SCHEMA = read_schema(
    "kind A { n: int 0..9; m: int 0..9; t: text 9; r: ref B or C; s: ref B; l: list A; k: int 0..9; key r, k; key n, t; key m; } "
    "kind B { t: text 9; n: int 0..9; a: ref A; c: ref C; } kind C { t: text 9; a: ref A or B; }")


def plan(where):
    return plan_text(SCHEMA, f"from A o where {where} give o")


class PlanTest(unittest.TestCase):
    def check(self, *rows):
        for where, wanted in rows:
            self.assertEqual(plan(where), wanted, where)

    def test_all(self):
        self.assertEqual(plan_text(SCHEMA, "from A o give o"), "all")
        self.check(("o.n = 1", "all"), ("o.m > 1", "all"), ("o.r is null", "all"), ("o.t starts \"x\"", "all"), ("o.m != 1", "all"),
                   ("o = o", "all"), ("o.m = o.n", "all"), ("o.r = o.s", "all"), ("o.m + 0 = 1", "all"))

    def test_number(self):
        self.check(("o = :p", "number"), (":p = o", "number"), ("o in (:p, :q)", "number"), ("o.m = 1 and o = :p", "number"),
                   ("(o = (:p))", "number"), ("o = :p and o.n = 1", "number"))

    def test_key(self):
        self.check(("o.m = 1", "key m"), ('o.n = 1 and o.t = "x"', "key n, t"), ('"x" = o.t and 1 = o.n', "key n, t"),
                   ('o.m = 1 and o.t = "x" and o.n = 1', "key n, t"), ("o.m in (1, 2)", "key m"), ('o.t in ("x", :p) and o.n in (1, :q)', "key n, t"),
                   ("o.r = :p and o.k = 1", "reference r"))

    def test_reference(self):
        self.check(("o.r = :p", "reference r"), (":p = o.s", "reference s"), ("o.s = :p and o.r = :q", "reference s"),
                   ("o.r in (:p, :q)", "reference r"), ("o.m = 1 and o.r = :p", "key m"), ('o.n = 1 and o.r = :p', "reference r"))

    def test_path(self):
        self.check(('o.s.t = "x"', "path s.t"), ("o.s.n in (1, 2)", "path s.n"), ("o.s.a = :p", "path s.a"), ('o.r.t = "x"', "path r.t"),
                   ("o.s.a.n = 1", "path s.a.n"), ("1 = o.s.a.n", "path s.a.n"), ("o.s.c.a = :p", "path s.c.a"), ('o.r.a is null', "all"),
                   ('o.s.a.s.t = "x"', "all"), ('o.s.a.s.n = 1 and o.s.n = 1', "path s.n"))

    def test_the_first_that_applies(self):
        where = ["o.s.t = \"x\"", "o.s = :p", "o.m = 1", "o = :q"]
        for rows in (where, list(reversed(where))):
            self.check((" and ".join(rows), "number"), (" and ".join(row for row in rows if row != "o = :q"), "key m"),
                       (" and ".join(row for row in rows if row in where[:2]), "reference s"))

    def test_the_first_part_in_the_text(self):
        self.check(("o.s.n = 1 and o.r.t = \"x\"", "path s.n"), ("o.r.t = \"x\" and o.s.a.n = 1", "path r.t"), ("o.s.a.n = 1 and o.s.n = 2", "path s.a.n"))

    def test_parentheses_and_and(self):
        self.check(("(o.n = 1 and (o.t = \"x\")) and o.m > 1", "key n, t"), ("((o.m = 1))", "key m"), ("o.m > 1 and (o.r is null and o.m = 1)", "key m"),
                   ("o.m = 1 or o.m = 2", "all"), ("(o.m = 1 or o.m = 2) and o.s = :p", "reference s"), ("not o.m = 1", "all"),
                   ("not not o.m = 1", "all"), ("o.m = 1 and (o = :p or o = :q)", "key m"), ("some x in o.l (o.m = 1)", "all"))

    def test_expressions_without_names(self):
        self.check(("o.m = 1 + :p * -2", "key m"), ("-(-:p) - 1 = o.m", "key m"), ("o.m in (1, 2 + 3, -:p)", "key m"), ("o.m in (1, o.n)", "all"),
                   ("o.m = 1 + o.n", "all"), ("o.m = count(o.l)", "all"), ("o.m = sum(x in o.l: 1)", "all"), ("1 in (o.m)", "all"), ("1 in (o.m, 2)", "all"))

    def test_other_operators_are_no_parts(self):
        self.check(("o.m >= 1 and o.m <= 1", "all"), ("o.m != 1", "all"), ('o.s.t holds "x"', "all"))

    def test_group_and_order_do_not_count(self):
        self.assertEqual(plan_text(SCHEMA, "from A o where o.m = 1 group by o.n order by count() give o.n skip 1 first :p"), "key m")

    def test_faults(self):
        with self.assertRaises(Fault):
            plan_text(SCHEMA, "from A o where o.x = 1 give o")


def an_a(n=None, m=None, t=None, r=None, s=None, l=()):
    return thing("A", n=n, m=m, t=t, r=r, s=s, l=list(l), k=None)


PICTURE = {
    1: an_a(1, 1, "x", 11, 11), 2: an_a(2, 2, "y", 21, 12), 3: an_a(3, 3, "x", 12, 12), 4: an_a(1, 4, "y", 99, 21), 5: an_a(),
    11: thing("B", t="b", n=1, a=2, c=21), 12: thing("B", t="c", n=2, a=1, c=None), 13: thing("B", t="b", n=1, a=None, c=22),
    21: thing("C", t="b", a=3), 22: thing("C", t="d", a=13),
}


class CandidatesTest(unittest.TestCase):
    def found(self, where, parameters=None, view=None):
        view = View(SCHEMA, PictureSource(PICTURE)) if view is None else view
        return candidates(view, read_query(SCHEMA, f"from A o where {where} give o"), parameters or {})

    def test_number(self):
        self.assertEqual(self.found("o = :p", {"p": 3}), [3])
        self.assertEqual(self.found("o in (:p, :q, :r, :p)", {"p": 77, "q": 11, "r": 2}), [2, 11, 77])

    def test_key(self):
        self.assertEqual(self.found('o.n = 1 and o.t = "x"'), [1])
        self.assertEqual(self.found('o.n = 1 and o.t = "z"'), [])
        self.assertEqual(self.found('o.n in (1, 2, 1) and o.t in ("y", "x", :p)', {"p": "z"}), [1, 2, 4])
        self.assertEqual(self.found("o.m = 1 + :p", {"p": 2}), [3])
        self.assertEqual(self.found("o.m = 1 and o.m = 2"), [1])

    def test_many_amounts_for_a_wide_key(self):
        schema = read_schema("kind A { " + " ".join(f"{name}: int 0..9;" for name in "abcdefgh") + " key a, b, c, d, e, f, g, h; }")
        where = " and ".join(f"o.{name} in (1, 2, 3, 4, 5, 6)" for name in "abcdefgh")
        picture = {number: thing("A", **{name: number for name in "abcdefgh"}) for number in range(1, 10)}
        view = View(schema, PictureSource(picture))
        self.assertEqual(candidates(view, read_query(schema, f"from A o where {where} give o"), {}), [1, 2, 3, 4, 5, 6])

    def test_reference(self):
        self.assertEqual(self.found("o.r = :p", {"p": 12}), [3])
        self.assertEqual(self.found("o.r in (:p, :q)", {"p": 12, "q": 11}), [1, 3])
        # Objects that hold a number are candidates, told or not.
        self.assertEqual(self.found("o.r = :p", {"p": 99}), [4])
        self.assertEqual(self.found("o.s = :p", {"p": 21}), [4])

    def test_path(self):
        self.assertEqual(self.found('o.r.t = "b"'), [1, 2])
        self.assertEqual(self.found('o.r.t in ("c", "b")'), [1, 2, 3])
        self.assertEqual(self.found("o.s.n = 2"), [2, 3])
        self.assertEqual(self.found("o.s.a = :p", {"p": 2}), [1])
        self.assertEqual(self.found("o.s.a.n = 1"), [2, 3])
        self.assertEqual(self.found('o.s.c.t = "b"'), [1])
        self.assertEqual(self.found("o.s.c.a = :p", {"p": 3}), [1])
        self.assertEqual(self.found("o.r.a = :p", {"p": 3}), [2])
        self.assertEqual(self.found("o.s.n = 7"), [])

    def test_all(self):
        self.assertEqual(self.found("o.m > 2"), [1, 2, 3, 4, 5])
        self.assertEqual(candidates(View(SCHEMA, PictureSource(PICTURE)), read_query(SCHEMA, "from B o give o"), {}), [11, 12, 13])

    def test_none_as_a_value(self):
        everything = [1, 2, 3, 4, 5]
        for where in ("o = :p", "o.m = :p", "o.r = :p", "o.s.t = :p", "o.s.a.n = :p", "o.m = 1 + :p", "o.m in (1, :p)", 'o.n = :p and o.t = "x"',
                      "o.n = 1 and o.t in (\"x\", :p)"):
            self.assertEqual(self.found(where, {"p": None}), everything, where)
        self.assertEqual(self.found("o.m = 1000000000000 + 1"), everything)
        self.assertEqual(self.found("o.m = 1 and o.n = :p", {"p": None}), [1])
        self.assertEqual(answer_query(View(SCHEMA, PictureSource(PICTURE)), "from A o where o.m = :p give o", {"p": None}), [[5]])

    def test_edits(self):
        view = View(SCHEMA, PictureSource(PICTURE))
        view.put(11, "t", "z")
        view.put(5, "m", 3)
        view.delete(2)
        view.make(6, "A", {"r": 11, "s": 11})
        self.assertEqual(self.found('o.r.t = "b"', {}, view), [])
        self.assertEqual(self.found('o.r.t = "z"', {}, view), [1, 6])
        self.assertEqual(self.found("o.m = 3", {}, view), [3, 5])
        self.assertEqual(self.found("o = :p", {"p": 2}, view), [2])


class SameAnswerTest(unittest.TestCase):
    """Pictures, edits and queries are drawn; the answer by the plan is the answer by all objects."""

    PARTS = ("o = :o", "o in (:o, :o2)", "o.m = :m", "o.n = :n", "o.t = :t", "o.n in (:n, :m + 1)", "o.r = :r", "o.s in (:r, :r2)", "o.s.t = :t",
             "o.r.t in (:t, \"c\")", "o.s.a = :o", "o.s.a.n = :n", "o.s.c.a = :r", "o.m > :m", "o.t is null", "(o.n = :n or o.m = :m)",
             "some x in o.l (x.n = :n)", "o.s.c.t = :t", "not o.m = :m")

    def picture(self, rnd):
        number = lambda: rnd.choice([None, 1, 2, 3, 4, 5, 11, 12, 13, 21, 22, 99])
        small = lambda: rnd.choice([None, 1, 2])
        text = lambda: rnd.choice([None, "b", "c"])
        picture = {}
        for one in range(1, 6):
            picture[one] = an_a(small(), small(), text(), number(), number(), [1, 99, 2])
        for one in (11, 12, 13):
            picture[one] = thing("B", t=text(), n=small(), a=number(), c=number())
        for one in (21, 22):
            picture[one] = thing("C", t=text(), a=number())
        return picture

    def test_drawn(self):
        plans = {}
        for seed in range(1500):
            rnd = random.Random(seed)
            view = View(SCHEMA, PictureSource(self.picture(rnd)))
            for _ in range(rnd.randint(0, 3)):
                view.put(rnd.randint(1, 5), "m", rnd.choice([None, 1, 2]))
                view.put(11, "t", rnd.choice([None, "b", "c"]))
            if rnd.random() < 0.2:
                view.delete(12)
            text = "from A o where " + " and ".join(rnd.sample(self.PARTS, rnd.randint(1, 4))) + " give o, o.r, o.s.t"
            parameters = {"o": rnd.choice([None, 1, 2, 99]), "o2": rnd.choice([3, 4]), "m": rnd.choice([None, 1, 2]), "n": rnd.choice([1, 2]),
                          "t": rnd.choice([None, "b", "c"]), "r": rnd.choice([11, 12, 21, 99, None]), "r2": rnd.choice([11, 12])}
            query = read_query(SCHEMA, text)
            by_all = lines_by(view, query, parameters, view.numbers("A"))
            self.assertEqual(answer_query(view, text, parameters), by_all, (text, parameters))
            found = candidates(view, query, parameters)
            self.assertEqual(found, sorted(set(found)))
            word = plan_text(SCHEMA, text).split()[0]
            plans[word] = plans.get(word, 0) + (len(by_all) > 0)
        self.assertTrue(all(plans[word] > 20 for word in ("number", "key", "reference", "path", "all")), plans)


if __name__ == "__main__":
    unittest.main()
