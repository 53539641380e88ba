import unittest

from oneheap.schemas.reading import read_schema, write_schema
from oneheap.steps.step import read_step

ELDER = (
    'kind Book { title: text 20 not null; price: int 0..99; state: one of "new", "old" not null; '
    "author: ref Author or Book; also: list Book or Author; key title; key state, price; } "
    "kind Author { name: text 20 not null; books: list Book; } "
    "kind Time { h: int 0..23; x: text 3; m: int 0..59 not null; key x; } "
)


def young(elder, text):
    return write_schema(read_step(read_schema(elder), text).younger)


class YoungCase(unittest.TestCase):
    def check(self, elder, text, expected):
        self.assertEqual(young(elder, text), expected)


class KeptTest(YoungCase):
    def test_nothing(self):
        self.check(ELDER, "", ELDER.strip())

    def test_renamed_kinds(self):
        elder = "kind A { a: ref A or B takes; b: list B or A; } kind B { a: ref A; key a; }"
        self.check(elder, "rename A to X;",
                   "kind X { a: ref X or B takes; b: list B or X; } kind B { a: ref X; key a; }")
        self.check(elder, "rename A to B; rename B to A;",
                   "kind B { a: ref B or A takes; b: list A or B; } kind A { a: ref B; key a; }")
        self.check(elder, "rename A to A;", elder)

    def test_renamed_fields(self):
        elder = "kind A { a: int 0..1 not null; b: int 0..2; key b, a; }"
        self.check(elder, "rename A.a to x;", "kind A { x: int 0..1 not null; b: int 0..2; key b, x; }")
        self.check(elder, "rename A.a to b; rename A.b to a;", "kind A { b: int 0..1 not null; a: int 0..2; key a, b; }")
        self.check(elder, "rename A.a to x; rename A to X;", "kind X { x: int 0..1 not null; b: int 0..2; key b, x; }")

    def test_changed_fields(self):
        elder = "kind A { a: int 0..1 not null; b: int 0..2; r: ref A takes; key b, a; } kind B { }"
        self.check(elder, "change A.a: text 3; change A.r: ref B;",
                   "kind A { a: text 3 not null; b: int 0..2; r: ref B; key b, a; } kind B { }")

    def test_new_fields_stand_behind(self):
        elder = "kind A { a: int 0..1; key a; } kind B { }"
        self.check(elder, "new A.z: int 0..1; new B.a: list A; new A.b: ref B;",
                   "kind A { a: int 0..1; z: int 0..1; b: ref B; key a; } kind B { a: list A; }")

    def test_gone_fields_take_their_keys_along(self):
        elder = "kind A { a: int 0..1; b: int 0..2; c: int 0..3; key b, a; key c; }"
        self.check(elder, "gone A.a;", "kind A { b: int 0..2; c: int 0..3; key c; }")
        self.check(elder, "gone A.c; gone A.b; gone A.a;", "kind A { }")
        self.check(elder, "gone A.c; new A.c: text 3;", "kind A { a: int 0..1; b: int 0..2; c: text 3; key b, a; }")

    def test_replaced_fields(self):
        self.check(ELDER, "replace Time (m, h) by (t: int 0..1439, u: int 0..23) as (60 * h + m, h);",
                   ELDER.replace("h: int 0..23; x: text 3; m: int 0..59 not null;",
                                 "x: text 3; t: int 0..1439; u: int 0..23;").strip())
        elder = "kind A { a: int 0..1 not null; b: int 0..1; c: int 0..1; key a; key b, c; }"
        self.check(elder, "replace A (a) by (c1: text 1, c2: text 1) table (0) -> (\"\", \"a\"), (1) -> (\"b\", \"c\");",
                   "kind A { c1: text 1; c2: text 1; b: int 0..1; c: int 0..1; key b, c; }")
        self.check(elder, "replace A (c, a) by (d: int 0..2) as (a + c); new A.e: int 0..1;",
                   "kind A { b: int 0..1; d: int 0..2; e: int 0..1; }")
        self.check(elder, "replace A (a) by (a: int 0..2) as (2 * a);",
                   "kind A { a: int 0..2; b: int 0..1; c: int 0..1; key b, c; }")

    def test_shapes_in_lines_stay(self):
        elder = "kind A { r: ref B; } kind B { }"
        self.check(elder, "rename B to C; rename A to B; new A.s: list B;",
                   "kind B { r: ref C; s: list B; } kind C { }")


class TakenTest(YoungCase):
    def test_split(self):
        elder = ('kind A { a: int 0..1 not null; s: one of "x", "y" not null; r: ref A or B; key a; key s, r; } '
                 "kind B { l: list A or B; r: ref B or A; }")
        self.check(elder, 'split A by s into "y" as Y, "x" as X;',
                   "kind Y { a: int 0..1 not null; r: ref Y or X or B; key a; } "
                   "kind X { a: int 0..1 not null; r: ref Y or X or B; key a; } "
                   "kind B { l: list Y or X or B; r: ref B or Y or X; }")
        self.check(elder, 'split A by s into "y" as A, "x" as X else X;',
                   "kind A { a: int 0..1 not null; r: ref A or X or B; key a; } "
                   "kind X { a: int 0..1 not null; r: ref A or X or B; key a; } "
                   "kind B { l: list A or X or B; r: ref B or A or X; }")

    def test_split_shares_no_field_between_branches(self):
        elder = 'kind A { a: int 0..1; s: one of "x", "y"; r: ref A; }'
        self.check(elder, 'split A by s into "x" as X, "y" as Y; new not null X.a; new key Y (a); deletes X.r takes;',
                   "kind X { a: int 0..1 not null; r: ref X or Y takes; } kind Y { a: int 0..1; r: ref X or Y; key a; }")

    def test_join(self):
        elder = ("kind A { a: int 0..1 not null; b: int 0..2 not null; l: list C; key a; } "
                 "kind C { r: ref B or A or C takes; } "
                 "kind B { c: text 3 not null; b: int 0..2 not null; a: int 0..1; } kind D { }")
        self.check(elder, 'join "b" as B, "a" as A into J by t;',
                   'kind J { t: one of "b", "a"; c: text 3; b: int 0..2 not null; a: int 0..1; l: list C; } '
                   "kind C { r: ref J or C takes; } kind D { }")
        self.check(elder, 'join "c" as C, "b" as B into C by t else B; rename A to B;',
                   "kind B { a: int 0..1 not null; b: int 0..2 not null; l: list C; key a; } "
                   'kind C { t: one of "c", "b"; r: ref C or B takes; c: text 3; b: int 0..2; a: int 0..1; } kind D { }')
        self.check(elder, 'join "d" as D into E by t;', elder.replace("kind D { }", 'kind E { t: one of "d"; }'))

    def test_gone_kinds(self):
        elder = "kind A { a: ref A or B; l: list B or A; } kind B { }"
        self.check(elder, "gone kind B;", "kind A { a: ref A; l: list A; }")
        self.check(elder, "gone kind B; new kind B { b: ref A; };", "kind A { a: ref A; l: list A; } kind B { b: ref A; }")

    def test_new_kinds_stand_behind(self):
        self.check("kind A { } kind B { }",
                   "new kind Z { a: ref C or X; key a; }; rename B to C; new kind X { x: int 0..1 not null; };",
                   "kind A { } kind C { } kind Z { a: ref C or X; key a; } kind X { x: int 0..1 not null; }")

    def test_all_at_once(self):
        elder = ('kind A { s: one of "x", "y"; r: ref A or B or C or D or E; } kind B { } kind C { } kind D { } kind E { }')
        self.check(elder, 'split A by s into "x" as X, "y" as C; join "d" as D, "b" as B into J by t; rename C to A; '
                   "gone kind E;",
                   'kind X { r: ref X or C or J or A; } kind C { r: ref X or C or J or A; } '
                   'kind J { t: one of "d", "b"; } kind A { }')

    def test_late_lines_come_behind_the_others(self):
        self.check(ELDER, "new not null Tome.cents; gone key Tome (title); rename Book.price to cents; "
                   "rename Book to Tome; new key Tome (author);",
                   ELDER.replace("kind Book", "kind Tome").replace("or Book", "or Tome").replace("list Book", "list Tome")
                   .replace("price: int 0..99;", "cents: int 0..99 not null;")
                   .replace("key title; key state, price;", "key state, cents; key author;").strip())


class UnchangedTest(unittest.TestCase):
    def test_the_elder_schema_stays(self):
        elder = read_schema(ELDER)
        text = ("new not null Book.price; gone not null Author.name; deletes Book.author takes; gone key Book (title); "
                "new key Time (h);")
        step = read_step(elder, text)
        self.assertEqual(write_schema(elder), ELDER.strip())
        self.assertEqual(write_schema(step.elder), ELDER.strip())
        self.assertNotEqual(write_schema(step.younger), ELDER.strip())

    def test_new_kinds_of_a_line_stay(self):
        text = "new kind Z { a: int 0..1; r: ref Z; }; new not null Z.a; new key Z (a); deletes Z.r takes;"
        step = read_step(read_schema("kind A { }"), text)
        self.assertEqual(step.written(), text)
        self.assertEqual(write_schema(step.younger), "kind A { } kind Z { a: int 0..1 not null; r: ref Z takes; key a; }")

    def test_a_faulty_step_leaves_the_elder_schema(self):
        elder = read_schema(ELDER)
        with self.assertRaises(ValueError):
            read_step(elder, "new not null Book.price; gone key Book (title); new not null Book.price;")
        self.assertEqual(write_schema(elder), ELDER.strip())


if __name__ == "__main__":
    unittest.main()
