"""What belongs together in the two schemas of a step."""

import unittest

from oneheap.schemas.reading import read_schema
from oneheap.steps.step import read_step

ELDER = read_schema(
    'kind Book { title: text 20 not null; price: int 0..99; state: one of "new", "old"; author: ref Author or Spare; '
    "h: int 0..23; m: int 0..59; x: int 0..1; also: list Book; } "
    'kind Author { name: text 20; way: one of "p", "q"; } kind Spare { a: int 0..1; } kind Other { a: int 0..1; } '
    "kind Last { b: int 0..1; }"
)
STEP = read_step(
    ELDER,
    "rename Book to Tome; rename Book.price to cents; change Book.state: text 9; gone Book.x; new Book.y: int 0..1; "
    "replace Book (h, m) by (t: int 0..1439) as (60 * h + m); "
    'split Author by way into "q" as Queen, "p" as Poet; join "o" as Other, "s" as Spare into Both by which; '
    "gone kind Last; new kind Fresh { a: int 0..1; }; deletes Tome.author takes; new not null Tome.cents;"
)


class TiesTest(unittest.TestCase):
    def test_young_tie(self):
        rows = [
            ("Book", "title", ("Tome", "title")),
            ("Book", "price", ("Tome", "cents")),
            ("Book", "author", ("Tome", "author")),
            ("Book", "also", ("Tome", "also")),
            ("Book", "state", None),
            ("Book", "x", None),
            ("Book", "h", None),
            ("Book", "m", None),
            ("Book", "y", None),
            ("Book", "z", None),
            ("Tome", "title", None),
            ("Author", "name", None),
            ("Author", "way", None),
            ("Spare", "a", None),
            ("Last", "b", None),
            ("Nothing", "a", None),
        ]
        for kind, field, tie in rows:
            self.assertEqual(STEP.young_tie(kind, field), tie, (kind, field))

    def test_elder_tie(self):
        rows = [
            ("Tome", "title", ("Book", "title")),
            ("Tome", "cents", ("Book", "price")),
            ("Tome", "author", ("Book", "author")),
            ("Tome", "also", ("Book", "also")),
            ("Tome", "price", None),
            ("Tome", "state", None),
            ("Tome", "y", None),
            ("Tome", "t", None),
            ("Tome", "h", None),
            ("Book", "title", None),
            ("Queen", "name", None),
            ("Both", "a", None),
            ("Both", "which", None),
            ("Fresh", "a", None),
            ("Nothing", "a", None),
        ]
        for kind, field, tie in rows:
            self.assertEqual(STEP.elder_tie(kind, field), tie, (kind, field))

    def test_exchanged_names(self):
        step = read_step(read_schema("kind A { a: int 0..1; b: int 0..1; } kind B { a: int 0..1; }"),
                         "rename A to B; rename B to A; rename A.a to b; rename A.b to a;")
        self.assertEqual(step.young_tie("A", "a"), ("B", "b"))
        self.assertEqual(step.young_tie("B", "a"), ("A", "a"))
        self.assertEqual(step.elder_tie("B", "b"), ("A", "a"))
        self.assertEqual(step.elder_tie("A", "a"), ("B", "a"))
        self.assertIsNone(step.elder_tie("A", "b"))

    def test_a_gone_field_that_is_new_again(self):
        step = read_step(read_schema("kind A { a: int 0..1; }"), "gone A.a; new A.a: int 0..1;")
        self.assertIsNone(step.young_tie("A", "a"))
        self.assertIsNone(step.elder_tie("A", "a"))

    def test_young_kin(self):
        rows = [("Book", ["Tome"]), ("Author", ["Queen", "Poet"]), ("Spare", ["Both"]), ("Other", ["Both"]),
                ("Last", [None])]
        for kind, kin in rows:
            self.assertEqual(STEP.young_kin(kind), kin)

    def test_elder_kin(self):
        rows = [("Tome", ["Book"]), ("Queen", ["Author"]), ("Poet", ["Author"]), ("Both", ["Other", "Spare"]),
                ("Fresh", [None])]
        for kind, kin in rows:
            self.assertEqual(STEP.elder_kin(kind), kin)

    def test_kin_in_the_order_of_the_branches(self):
        elder = read_schema("kind A { } kind B { } kind C { }")
        step = read_step(elder, 'join "c" as C, "a" as A into J by t; new kind A { };')
        self.assertEqual(step.elder_kin("J"), ["C", "A"])
        self.assertEqual(step.elder_kin("A"), [None])
        self.assertEqual(step.young_kin("A"), ["J"])
        self.assertEqual(step.elder_kin("B"), ["B"])

    def test_a_kind_that_is_gone_and_new_again(self):
        step = read_step(read_schema("kind A { } kind B { }"), "gone kind A; new kind A { };")
        self.assertEqual((step.young_kin("A"), step.elder_kin("A")), ([None], [None]))

    def test_nothing_is_shared(self):
        STEP.young_kin("Author").append("x")
        STEP.elder_kin("Both").append("x")
        STEP.carries().append("x")
        self.assertEqual(STEP.young_kin("Author"), ["Queen", "Poet"])
        self.assertEqual(STEP.elder_kin("Both"), ["Other", "Spare"])
        self.assertNotIn("x", STEP.carries())


class CarriesTest(unittest.TestCase):
    ELDER = ("kind A { a: int 0..1 not null; b: int 0..1; c: text 3 not null; r: ref B or A not null; "
             "key b, a; key r; key c; } "
             'kind B { b: int 0..1 not null; s: one of "x", "y"; key b; } kind C { c: ref B not null; l: list B; }')
    ALL = ["A.a needed", "A.c needed", "A.r needed", "A key b, a", "A key r", "A key c", "B.b needed", "B key b",
           "C.c needed"]

    def check(self, text, changed, gone):
        """Check what a step carries: all but what is gone, to the same or to what is changed."""
        step = read_step(read_schema(self.ELDER), text)
        expected = [(one, changed.get(one, one)) for one in self.ALL if one not in gone]
        with self.subTest(text=text):
            self.assertEqual(step.carries(), expected)

    def test_all_are_carried(self):
        self.check("", {}, [])
        self.check("new A.z: int 0..1; deletes A.r takes; new not null A.b; new kind D { };", {}, [])

    def test_names(self):
        self.check("rename A to X; rename A.a to z; rename B.b to a;", {
            "A.a needed": "X.z needed", "A.c needed": "X.c needed", "A.r needed": "X.r needed",
            "A key b, a": "X key b, z", "A key r": "X key r", "A key c": "X key c",
            "B.b needed": "B.a needed", "B key b": "B key a",
        }, [])

    def test_fields_that_are_not_tied(self):
        self.check("change A.a: int 0..2;", {}, ["A.a needed", "A key b, a"])
        self.check("change A.b: int 0..1;", {}, ["A key b, a"])
        self.check("gone A.c;", {}, ["A.c needed", "A key c"])
        self.check("gone A.c; new A.c: text 3; new not null A.c; new key A (c);", {}, ["A.c needed", "A key c"])
        self.check("replace A (a) by (z: int 0..1) as (a);", {}, ["A.a needed", "A key b, a"])
        self.check("change A.r: ref A;", {}, ["A.r needed", "A key r"])

    def test_kinds_that_are_taken(self):
        self.check('split B by s into "x" as X, "y" as Y;', {},
                   ["A.r needed", "A key r", "B.b needed", "B key b", "C.c needed"])
        self.check('join "b" as B into Z by t;', {}, ["A.r needed", "A key r", "B.b needed", "B key b", "C.c needed"])
        self.check("gone kind B; gone kind C;", {}, ["A.r needed", "A key r", "B.b needed", "B key b", "C.c needed"])
        self.check("gone kind C;", {}, ["C.c needed"])
        self.check('join "c" as C into C by t;', {}, ["C.c needed"])

    def test_what_late_lines_take_away(self):
        self.check("gone not null A.a;", {}, ["A.a needed"])
        self.check("gone key A (b, a);", {}, ["A key b, a"])
        self.check("gone not null A.a; new not null A.a;", {}, ["A.a needed"])
        self.check("gone key A (c); new key A (c);", {}, ["A key c"])
        self.check("rename A to B; rename B to A; gone not null A.b;", {
            "A.a needed": "B.a needed", "A.c needed": "B.c needed", "A.r needed": "B.r needed",
            "A key b, a": "B key b, a", "A key r": "B key r", "A key c": "B key c", "B key b": "A key b",
        }, ["B.b needed"])

    def test_new_constraints_are_not_carried(self):
        self.check("new not null A.b; gone key A (b, a); new key A (a, b);", {}, ["A key b, a"])
        self.check("new not null A.b; gone not null A.b;", {}, [])


if __name__ == "__main__":
    unittest.main()
