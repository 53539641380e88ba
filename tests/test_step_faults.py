"""The faults of lines that are not late."""

import unittest

from helper import FaultCase

from oneheap.schemas.reading import read_schema
from oneheap.steps.step import read_step

ELDER = read_schema(
    'kind A { i: int 0..23; k: int 0..59; t: text 20; w: text 9 without "-"; c: one of "x", "y"; r: ref A or B; '
    "l: list B; } "
    'kind B { i: int 0..23; c: one of "x", "y"; tb: text 10; r: ref A or B; l: list B; } kind C { i: int 0..1; }'
)

NO_KIND = "no such kind"
NO_FIELD = "no such field"
HAS_LINE = "has a line already"
BAD_WAY = "bad way"
BAD_TABLE = "bad table"
BAD_VALUE = "bad value"
HOLD = "does not hold"


def read(text):
    return read_step(ELDER, text)


class LineCase(FaultCase):
    def check_line(self, line, reason, start=""):
        """Check a fault at the first token of the line, or that the line is sound if there is no reason."""
        if reason is None:
            with self.subTest(text=start + line):
                read(start + line)
        else:
            self.check_fault(read, start + "|" + line, reason)

    def check_lines(self, rows):
        for line, reason in rows:
            self.check_line(line, reason)
            self.check_line(line, reason, "rename C.i to j; ")


class NamesTest(LineCase):
    def test_kinds_that_are_not_there(self):
        self.check_lines([(line, NO_KIND) for line in (
            "rename Z to Y;", "rename Z.i to j;", "change Z.i: int 0..1;", "new Z.a: int 0..1;", "gone Z.i;",
            "replace Z (z) by (a: int 0..1) as (zz);", 'split Z by z into "q" as Q;',
            'join "z" as Z into Y by t;', 'join "a" as A, "z" as Z into Y by t;', "gone kind Z;",
        )])

    def test_fields_that_are_not_there(self):
        self.check_lines([(line, NO_FIELD) for line in (
            "rename A.z to j;", "change A.z: ref Z;", "gone A.z = 5;", "replace A (z) by (a: ref Z) as (i);",
            "replace A (i, z) by (a: int 0..1) as (i);", 'split A by z into "x" as A;',
            "replace A (i) by (a: int 0..1) as (z);", "replace A (i) by (a: int 0..99) as (i + 2 * z);",
        )])

    def test_names_behind_a_rename_are_younger(self):
        self.check_line("rename D.i to j;", NO_KIND, "rename A to D; ")
        self.check_line("rename A.i to j;", None, "rename A to D; ")
        self.check_line("change A.j: int 0..1;", NO_FIELD, "rename A.i to j; ")
        self.check_line("gone A.z;", NO_FIELD, "new A.z: int 0..1; ")
        self.check_line("new D.a: int 0..1;", NO_KIND, "new kind D { }; ")

    def test_lines_are_looked_at_in_order(self):
        self.check_faults(read, [
            ("|gone Z.a; gone A.z;", NO_KIND),
            ("rename A to D; |change A.i: ref A; gone kind Z;", NO_KIND),
            ("|change A.r: ref Q; gone Z.a;", NO_KIND),
            ("new not null Z.i; |gone A.z;", NO_FIELD),
        ])


class SecondLineTest(LineCase):
    FIELD_LINES = (
        "rename A.i to j;", "change A.i: int 0..9;", "gone A.i;", "replace A (k, i) by (j: int 0..99) as (k + i);",
    )
    TAKING = ("gone kind A;", 'split A by c into "x" as X, "y" as Y;', 'join "b" as B, "a" as A into D by tt;')

    def test_a_field_and_a_field(self):
        for first in self.FIELD_LINES:
            for second in self.FIELD_LINES:
                self.check_line(second, HAS_LINE, first + " ")
            self.check_line("rename A.t to m;", None, first + " ")
            self.check_line("rename B.i to m;", None, first + " ")
            self.check_line("new A.i: int 0..1;" if first != "change A.i: int 0..9;" else "deletes A.r takes;",
                            None, first + " gone A.l; ")

    def test_a_field_and_its_taken_kind(self):
        for first in self.TAKING:
            for second in self.FIELD_LINES:
                self.check_line(second, HAS_LINE, first + " ")
                self.check_line(first, HAS_LINE, second + " ")

    def test_a_new_field_and_its_taken_kind(self):
        for first in self.TAKING:
            self.check_line("new A.z: int 0..1;", HAS_LINE, first + " ")
            self.check_line(first, HAS_LINE, "new A.z: int 0..1; ")
        self.check_line("new A.z: int 0..1;", None, "rename A to D; gone A.l; ")
        self.check_line("rename A to D;", None, "gone A.l; new A.z: int 0..1; ")
        self.check_line("new A.z: int 0..1;", None, "gone A.l; gone A.t; new A.y: int 0..1; ")

    def test_two_lines_that_take_a_kind(self):
        for first in self.TAKING:
            for second in self.TAKING:
                self.check_line(second, HAS_LINE, first + " ")
        self.check_line('join "d" as C, "b" as B into E by tt;', HAS_LINE,
                        'join "b" as B, "a" as A into D by tt; ')
        self.check_line("gone kind C;", None, "gone kind A; ")

    def test_a_renamed_kind(self):
        for first in self.TAKING:
            self.check_line("rename A to D;", HAS_LINE, first + " ")
            self.check_line(first, HAS_LINE, "rename A to D; ")
        self.check_line("rename A to E;", HAS_LINE, "rename A to D; ")
        for first in self.FIELD_LINES:
            self.check_line("rename A to D;", None, first + " ")
            self.check_line(first, None, "rename A to D; ")

    def test_new_kinds_touch_nothing(self):
        self.check_line("gone kind C;", None, "new kind D { }; ")
        self.check_line("new kind C { };", None, "gone kind C; ")

    def test_late_lines_do_not_count(self):
        self.check_line("rename A.i to j;", None, "new not null A.j; ")
        self.check_line("rename A to D;", None, "deletes D.r takes; ")

    def test_from_left_to_right(self):
        self.check_line("replace A (i, z) by (a: int 0..1) as (i);", HAS_LINE, "gone A.i; ")
        self.check_line("replace A (z, i) by (a: int 0..1) as (i);", NO_FIELD, "gone A.i; ")
        self.check_line("replace A (i, k) by (a: int 0..1) as (z);", HAS_LINE, "gone A.k; ")
        self.check_line('join "a" as A, "z" as Z into D by tt;', HAS_LINE, "gone A.i; ")
        self.check_line('join "z" as Z, "a" as A into D by tt;', NO_KIND, "gone A.i; ")
        self.check_line("gone A.z;", NO_FIELD, "gone kind A; ")
        self.check_line('split A by z into "x" as X, "y" as Y;', NO_FIELD, "gone kind A; ")
        self.check_line('split A by i into "x" as X, "y" as Y;', HAS_LINE, "gone kind A; ")

    def test_names_come_before_all_else(self):
        self.check_line("change A.i: ref Z;", HAS_LINE, "gone A.i; ")
        self.check_line('gone A.i = "x";', HAS_LINE, "gone A.i; ")
        self.check_line("new A.z: ref Z;", HAS_LINE, "gone kind A; ")
        self.check_line('join "a" as A, "a" as A into D by tt;', HAS_LINE, "rename A to E; ")


class ShapesTest(LineCase):
    def test_kinds_in_shapes_are_younger(self):
        self.check_line("new C.r: ref B;", NO_KIND, "rename B to D; ")
        self.check_faults(read, [
            ("|new C.r: ref B; rename B to D;", NO_KIND),
            ("|change A.r: ref X or B; gone kind B;", NO_KIND),
            ('|new C.r: ref A; split A by c into "x" as X, "y" as Y;', NO_KIND),
            ('|new C.r: list A; join "a" as A into D by tt;', NO_KIND),
            ("|change A.r: ref Z;", NO_KIND),
            ("|change A.r: ref A or Z;", NO_KIND),
            ("gone C.i; |new C.r: list B or Z or A;", NO_KIND),
            ("|change A.i: ref Z;", NO_KIND),
            ("|replace C (i) by (a: int 0..1, b: ref Z) as (i);", NO_KIND),
            ("|new C.r: list Z = 5;", NO_KIND),
            ("|new C.r: ref D; rename Z to D;", NO_KIND),
        ])
        for text in (
            "new C.r: ref D; rename B to D;",
            'new C.r: ref X or Y; split A by c into "x" as X, "y" as Y;',
            'new C.r: ref D; join "a" as A into D by tt;',
            "new C.r: ref D; new kind D { };",
            "change A.r: ref D or A; new kind D { };",
        ):
            read(text)

    def test_changes(self):
        plain = ("int 0..1", "text 3", 'one of "x"')
        allowed = {"i": plain, "t": plain, "c": plain, "r": ("ref B", "ref A takes"), "l": ("list B", "list A or C")}
        shapes = plain + allowed["r"] + allowed["l"]
        for name in allowed:
            for shape in shapes:
                if shape in allowed[name]:
                    self.check_line(f"change A.{name}: {shape};", None)
                else:
                    self.check_line(f"change A.{name}: {shape};", "no exchange")
                    self.check_line(f'change A.{name}: {shape} else "zzzz";', "no exchange", "rename C.i to j; ")

    def test_values_of_changes(self):
        self.check_lines([
            ("change A.i: int 3..5 else 5;", None),
            ("change A.i: int 3..5 else 6;", BAD_VALUE),
            ("change A.i: int 3..5 else 2;", BAD_VALUE),
            ('change A.i: int 3..5 else "5";', BAD_VALUE),
            ("change A.i: int 3..50 back 23;", None),
            ("change A.i: int 3..50 back 24;", BAD_VALUE),
            ('change A.i: text 3 else "abc" back 0;', None),
            ('change A.i: text 3 else "abcd" back 0;', BAD_VALUE),
            ('change A.i: text 3 else "abc" back "abc";', BAD_VALUE),
            ('change A.w: one of "-" else "-";', None),
            ('change A.w: one of "-" else "-" back "-";', BAD_VALUE),
            ('change A.c: one of "z" else "z" back "y";', None),
            ('change A.c: one of "z" else "x";', BAD_VALUE),
            ('change A.c: one of "z" back "z";', BAD_VALUE),
            ("change A.r: ref B else 1;", BAD_VALUE),
            ("change A.r: ref B back 1;", BAD_VALUE),
            ("change A.r: ref B else null back null;", None),
            ("change A.l: list A else 1;", BAD_VALUE),
            ("change A.l: list A back 1;", BAD_VALUE),
            ("change A.l: list A else null back null;", None),
        ])

    def test_values_of_new_and_gone_fields(self):
        self.check_lines([
            ("new C.z: int 0..5 = 5;", None),
            ("new C.z: int 0..5 = 6;", BAD_VALUE),
            ('new C.z: text 3 without "-" = "abc";', None),
            ('new C.z: text 3 without "-" = "a-c";', BAD_VALUE),
            ("new C.z: ref A = 1;", BAD_VALUE),
            ("new C.z: ref A = null;", None),
            ("new C.z: list A = 1;", BAD_VALUE),
            ("new C.z: list A = null;", None),
            ("gone A.i = 23;", None),
            ("gone A.i = 24;", BAD_VALUE),
            ('gone A.c = "x";', None),
            ('gone A.c = "z";', BAD_VALUE),
            ("gone A.r = 1;", BAD_VALUE),
            ("gone A.l = 1;", BAD_VALUE),
            ("gone A.l = null;", None),
        ])


class FormsTest(LineCase):
    def check_forms(self, group, made, forms, reason, end=""):
        self.check_line(f"replace A ({group}) by ({made}) as ({forms}){end};", reason)

    def test_groups_and_made_fields(self):
        self.check_forms("i", "z: int 0..23", "i", None)
        self.check_forms("i, k", "z: int 0..1439", "60 * i + k", None)
        self.check_forms("i, k", "y: int 0..23, z: int 0..59", "i, k", None)
        self.check_forms("i", "y: int 0..23, z: int 0..46", "i, 2 * i", None)
        self.check_forms("i, i", "z: int 0..99", "i", BAD_WAY)
        elder = read_schema("kind A { a: int 0..1; b: int 0..1; c: int 0..1; }")
        text = "replace A (a, b, c) by (d: int 0..9) as (a + b + c);"
        self.assertEqual(self.told_fault(lambda: read_step(elder, text)), (0, BAD_WAY))
        self.check_forms("i", "x: int 0..23, y: int 0..23, z: int 0..23", "i, i, i", BAD_WAY)
        self.check_forms("t", "z: int 0..23", "t", BAD_WAY)
        self.check_forms("c", "z: int 0..23", "1", BAD_WAY)
        self.check_forms("i", "z: text 3", "i", BAD_WAY)
        self.check_forms("i", "z: ref A", "i", BAD_WAY)
        self.check_forms("i", "z: int 0..23, y: one of \"a\"", "i, i", BAD_WAY)
        self.check_forms("r", "z: int 0..23", "1", BAD_WAY)
        self.check_forms("l", "z: int 0..23", "1", BAD_WAY)

    def test_as_many_forms_as_made_fields(self):
        self.check_forms("i", "y: int 0..23, z: int 0..46", "i", BAD_WAY)
        self.check_forms("i", "z: int 0..46", "i, i", BAD_WAY)

    def test_fields_in_forms(self):
        self.check_forms("i", "z: int 0..99", "k", BAD_WAY)
        self.check_forms("i", "z: int 0..99", "i + k", BAD_WAY)
        self.check_forms("i", "z: int 0..99", "i + zz", NO_FIELD)

    def test_factor_sums(self):
        self.check_forms("i, k", "z: int 0..99", "i", BAD_WAY)
        self.check_forms("i, k", "z: int -99..99", "i + k + -1 * k", BAD_WAY)
        self.check_forms("i, k", "z: int -99..99", "i + 0 * k", BAD_WAY)
        self.check_forms("i, k", "y: int -99..99, z: int 0..59", "i + k + -1 * k, k", None)
        self.check_forms("i, k", "y: int -99..99, z: int 0..59", "i + k + -1 * k, 2 * i", BAD_WAY)
        self.check_forms("i, k", "y: int 7..7, z: int 0..99", "7, i", BAD_WAY)
        self.check_forms("i", "z: int 7..7", "7", None)
        self.check_forms("i", "z: int 0..0", "0 * i", None)

    def test_bounds(self):
        self.check_forms("i", "z: int 1..23", "i", HOLD)
        self.check_forms("i", "z: int 0..22", "i", HOLD)
        self.check_forms("i, k", "z: int 0..1438", "60 * i + k", HOLD)
        self.check_forms("i, k", "z: int 1..1439", "60 * i + k", HOLD)
        self.check_forms("i, k", "z: int -59..23", "i + -1 * k", None)
        self.check_forms("i, k", "z: int -58..23", "i + -1 * k", HOLD)
        self.check_forms("i, k", "z: int -59..22", "i + -1 * k", HOLD)
        self.check_forms("i", "z: int -18..5", "5 + -1 * i", None)
        self.check_forms("i", "z: int -18..4", "5 + -1 * i", HOLD)
        self.check_forms("i", "z: int -17..5", "5 + -1 * i", HOLD)
        self.check_forms("i", "z: int 3..26", "1 + i + 2", None)
        self.check_forms("i", "z: int 0..23", "2 * i + -1 * i", None)
        self.check_forms("i", "y: int 0..23, z: int 0..45", "i, 2 * i", HOLD)
        self.check_forms("i", "z: int 6..6", "7", HOLD)
        self.check_forms("i", "z: int 0..999", "999999999999999999 * i", HOLD)

    def test_bounds_of_negative_groups(self):
        elder = read_schema("kind A { i: int -5..7; }")
        read_step(elder, "replace A (i) by (z: int -10..14) as (2 * i);")
        read_step(elder, "replace A (i) by (z: int -14..10) as (-2 * i);")
        for bounds in ("-9..14", "-10..13"):
            with self.assertRaises(ValueError):
                read_step(elder, f"replace A (i) by (z: int {bounds}) as (2 * i);")

    def test_values_behind_back(self):
        self.check_forms("i", "z: int 0..23", "i", None, " back (23)")
        self.check_forms("i", "z: int 0..23", "i", None, " back (null)")
        self.check_forms("i", "z: int 0..23", "i", BAD_VALUE, " back (24)")
        self.check_forms("i", "z: int 0..23", "i", BAD_VALUE, " back (1, 1)")
        self.check_forms("i, k", "z: int 0..1439", "60 * i + k", None, " back (23, 59)")
        self.check_forms("i, k", "z: int 0..1439", "60 * i + k", None, " back (null, 59)")
        self.check_forms("i, k", "z: int 0..1439", "60 * i + k", BAD_VALUE, " back (23, 60)")
        self.check_forms("i, k", "z: int 0..1439", "60 * i + k", BAD_VALUE, " back (23)")
        self.check_forms("i, k", "z: int 0..1439", "60 * i + k", BAD_VALUE, ' back (23, "x")')

    def test_order(self):
        self.check_forms("i, i", "z: ref Z", "i", NO_KIND)
        self.check_forms("i, i", "z: int 5..5", "i", BAD_WAY, " back (99)")
        self.check_forms("i", "z: int 5..5", "i", HOLD, " back (99)")


class TableTest(LineCase):
    def check_table(self, group, made, rows, reason, end=""):
        self.check_line(f"replace B ({group}) by ({made}) table {rows}{end};", reason)

    def test_rows(self):
        sound = '("x") -> (1), ("y") -> (2)'
        self.check_table("c", "z: int 0..5", sound, None)
        self.check_table("c", "z: int 0..5", '("y") -> (2), ("x") -> (2)', None)
        self.check_table("c", "z: int 0..5", '("x") -> (1)', BAD_TABLE)
        self.check_table("c", "z: int 0..5", sound + ', ("x") -> (1)', BAD_TABLE)
        self.check_table("c", "z: int 0..5", '("x") -> (1), ("x") -> (1)', BAD_TABLE)
        self.check_table("c", "z: int 0..5", sound + ', ("z") -> (1)', BAD_TABLE)
        self.check_table("c", "z: int 0..5", '("x") -> (1), ("z") -> (1)', BAD_TABLE)
        self.check_table("c", "z: int 0..5", '("x") -> (1), (null) -> (1)', BAD_TABLE)
        self.check_table("c", "z: int 0..5", '("x") -> (1), (1) -> (1)', BAD_TABLE)
        self.check_table("c", "z: int 0..5", '("x") -> (1), ("y", "y") -> (1)', BAD_TABLE)

    def test_several_fields(self):
        elder = read_schema('kind A { a: int -1..0; b: one of "x", "y"; d: int 3..3; t: text 3; }')
        rows = '(-1, "x", 3) -> (0, null), (-1, "y", 3) -> (1, "b"), (0, "x", 3) -> (2, "c"), (0, "y", 3) -> (0, "")'
        text = f'replace A (a, b, d) by (y: int 0..2, z: text 1) table {rows};'
        self.assertEqual(self.told_fault(lambda: read_step(elder, text)), (0, HOLD))
        read_step(elder, text.replace("null", '"a"'))
        read_step(elder, text.replace("null", '"a"').replace(";", " back (null, \"y\", 3);"))
        for wrong in ('(0, "y")', '(0, "y", 4)', '("y", 0, 3)', '(1, "y", 3)', '(0, null, 3)', '(0, "x", 3)'):
            broken = text.replace("null", '"a"').replace('(0, "y", 3) ->', wrong + " ->")
            self.assertEqual(self.told_fault(lambda: read_step(elder, broken)), (0, BAD_TABLE))

    def test_groups_and_made_fields(self):
        self.check_table("c, c", "z: int 0..5", '("x", "x") -> (1)', BAD_WAY)
        self.check_table("tb", "z: int 0..5", '("x") -> (1)', BAD_WAY)
        self.check_table("c, tb", "z: int 0..5", '("x", "a") -> (1)', BAD_WAY)
        self.check_table("r", "z: int 0..5", '("x") -> (1)', BAD_WAY)
        self.check_table("l", "z: int 0..5", '("x") -> (1)', BAD_WAY)
        self.check_table("c", "z: ref A", '("x") -> (1), ("y") -> (1)', BAD_WAY)
        self.check_table("c", "z: int 0..5, y: list A", '("x") -> (1, 1), ("y") -> (1, 1)', BAD_WAY)
        self.check_table("c", "x: int 0..5, y: text 3, z: one of \"q\"",
                         '("x") -> (1, "a", "q"), ("y") -> (1, "", "q")', None)

    def test_made_values(self):
        self.check_table("c", "z: int 0..5", '("x") -> (6), ("y") -> (1)', HOLD)
        self.check_table("c", "z: int 0..5", '("x") -> (0), ("y") -> (null)', HOLD)
        self.check_table("c", "z: int 0..5", '("x") -> (0), ("y") -> ("a")', HOLD)
        self.check_table("c", "z: int 0..5", '("x") -> (0), ("y") -> (1, 1)', HOLD)
        self.check_table("c", "z: int 0..5, y: int 0..5", '("x") -> (0, 1), ("y") -> (1)', HOLD)
        self.check_table("c", "z: text 2", '("x") -> ("ab"), ("y") -> ("abc")', HOLD)

    def test_order(self):
        self.check_table("c, c", "z: ref Z", '("x") -> (1)', NO_KIND)
        self.check_table("tb", "z: int 0..5", '("x") -> (9)', BAD_WAY)
        self.check_table("c", "z: int 0..5", '("x") -> (9)', BAD_TABLE)
        self.check_table("c", "z: int 0..5", '("x") -> (9), ("y") -> (1)', HOLD, ' back ("q")')
        self.check_table("c", "z: int 0..5", '("x") -> (0), ("y") -> (1)', BAD_VALUE, ' back ("q")')
        self.check_table("c", "z: int 0..5", '("x") -> (0), ("y") -> (1)', BAD_VALUE, ' back ("x", "x")')
        self.check_table("c", "z: int 0..5", '("x") -> (0), ("y") -> (1)', None, ' back ("x")')

    def test_combinations(self):
        for many, reason in ((64, None), (65, BAD_TABLE)):
            elder = read_schema(f"kind A {{ a: int 1..{many}; }}")
            rows = ",".join(f"({at})->(0)" for at in range(1, many + 1))
            text = f"replace A(a)by(b:int 0..0)table{rows};"
            if reason is None:
                self.assertEqual(len(read_step(elder, text).lines[0].way.rows), many)
            else:
                self.assertEqual(self.told_fault(lambda: read_step(elder, text)), (0, reason))

    def test_combinations_of_several_fields(self):
        elder = read_schema('kind A { a: int 0..12; b: one of "a", "b", "c", "d", "e"; }')
        rows = ",".join(f"({a},\"{b}\")->(0)" for a in range(13) for b in "abcde")
        text = f"replace A(a,b)by(c:int 0..0)table{rows};"
        self.assertEqual(self.told_fault(lambda: read_step(elder, text)), (0, BAD_TABLE))
        elder = read_schema("kind A { a: int -1000000000..1000000000; b: int -1000000000..1000000000; }")
        text = "replace A (a, b) by (c: int 0..0) table (0, 0) -> (0);"
        self.assertEqual(self.told_fault(lambda: read_step(elder, text)), (0, BAD_TABLE))


class TextsTest(LineCase):
    def test_split(self):
        start = "replace A (t) by "
        self.check_lines([
            (start + '(y: text 20 without "-", z: text 19) split "-";', None),
            (start + '(y: text 40 without "-", z: text 40) split "-";', None),
            (start + '(y: text 19 without "-", z: text 19) split "-";', HOLD),
            (start + '(y: text 20 without "-", z: text 18) split "-";', HOLD),
            (start + '(y: text 20 without "-", z: text 19) split "";', BAD_WAY),
            (start + '(y: text 20 without "-", z: text 19) split "--";', BAD_WAY),
            (start + '(y: text 20 without "-", z: text 19) split "+";', BAD_WAY),
            (start + '(y: text 20, z: text 19) split "-";', BAD_WAY),
            (start + '(y: text 20, z: text 19 without "-") split "-";', BAD_WAY),
            (start + '(y: text 20 without "-", z: text 19 without "-") split "-";', BAD_WAY),
            (start + '(y: text 20 without "-") split "-";', BAD_WAY),
            (start + '(y: text 20 without "-", z: text 19, x: text 19) split "-";', BAD_WAY),
            (start + '(y: text 20 without "-", z: int 0..1) split "-";', BAD_WAY),
            (start + '(y: one of "-", z: text 20) split "-";', BAD_WAY),
            (start + '(y: text 20 without "-", z: text 19) split "-" back ("a-b");', None),
            (start + '(y: text 20 without "-", z: text 19) split "-" back (5);', BAD_VALUE),
            (start + '(y: text 20 without "-", z: text 19) split "-" back ("a", "b");', BAD_VALUE),
            (start + '(y: text 1 without "-", z: text 19) split "-" back (5);', HOLD),
            ('replace A (w) by (y: text 20 without "-", z: text 19) split "-";', BAD_WAY),
            ('replace A (c) by (y: text 20 without "-", z: text 19) split "-";', BAD_WAY),
            ('replace A (i) by (y: text 20 without "-", z: text 19) split "-";', BAD_WAY),
            ('replace A (t, w) by (y: text 20 without "-", z: text 19) split "-";', BAD_WAY),
            ('replace A (t, t) by (y: text 20 without "-", z: text 19) split "-";', BAD_WAY),
        ])

    def test_split_of_a_short_text(self):
        elder = read_schema("kind A { t: text 1; }")
        read_step(elder, 'replace A (t) by (y: text 1 without "-", z: text 1) split "-";')

    def test_join(self):
        self.check_lines([
            ('replace A (w, t) by (z: text 30) join "-";', None),
            ('replace A (w, t) by (z: text 29) join "-";', HOLD),
            ('replace A (w, t) by (z: text 30) join "+";', BAD_WAY),
            ('replace A (w, t) by (z: text 30) join "";', BAD_WAY),
            ('replace A (w, t) by (z: text 30) join "--";', BAD_WAY),
            ('replace A (t, w) by (z: text 30) join "-";', BAD_WAY),
            ('replace A (w, w) by (z: text 30) join "-";', BAD_WAY),
            ('replace A (w) by (z: text 30) join "-";', BAD_WAY),
            ('replace A (w, t, c) by (z: text 30) join "-";', BAD_WAY),
            ('replace A (w, c) by (z: text 30) join "-";', BAD_WAY),
            ('replace A (w, t) by (z: text 30 without "-") join "-";', BAD_WAY),
            ('replace A (w, t) by (z: text 30 without "+") join "-";', BAD_WAY),
            ('replace A (w, t) by (z: one of "-") join "-";', BAD_WAY),
            ('replace A (w, t) by (z: text 30, y: text 30) join "-";', BAD_WAY),
            ('replace A (w, t) by (z: text 30) join "-" back ("a", "b-c");', None),
            ('replace A (w, t) by (z: text 30) join "-" back ("a-", "b");', BAD_VALUE),
            ('replace A (w, t) by (z: text 30) join "-" back (null, null);', None),
            ('replace A (w, t) by (z: text 30) join "-" back ("a");', BAD_VALUE),
        ])

    def test_join_of_long_texts(self):
        elder = read_schema('kind A { w: text 20 without "-"; t: text 20; }')
        text = 'replace A (w, t) by (z: text 40) join "-";'
        self.assertEqual(self.told_fault(lambda: read_step(elder, text)), (0, HOLD))


class KindsTest(LineCase):
    def test_split(self):
        self.check_lines([
            ('split A by c into "x" as X, "y" as Y;', None),
            ('split A by c into "y" as Y, "x" as X else X;', None),
            ('split A by c into "x" as X, "y" as A;', None),
            ('split A by c into "x" as X, "y" as X;', BAD_WAY),
            ('split A by c into "x" as X;', BAD_WAY),
            ('split A by c into "x" as X, "y" as Y, "z" as Z;', BAD_WAY),
            ('split A by c into "x" as X, "x" as Y;', BAD_WAY),
            ('split A by c into "x" as X, "y" as Y, "x" as Z;', BAD_WAY),
            ('split A by c into "x" as X, "z" as Y;', BAD_WAY),
            ('split A by c into "x" as X, "y" as Y else A;', BAD_WAY),
            ('split A by t into "x" as X, "y" as Y;', BAD_WAY),
            ('split A by i into "x" as X, "y" as Y;', BAD_WAY),
            ('split A by r into "x" as X, "y" as Y;', BAD_WAY),
            ('split A by l into "x" as X, "y" as Y;', BAD_WAY),
        ])

    def test_join(self):
        elder = ('kind A { a: int 0..1 not null; r: ref A or B; } kind B { b: text 3; a: int 0..1; r: ref A or B; } '
                 "kind C { a: int 0..2; } kind D { r: ref B or A; } kind E { r: ref A or B takes; } kind F { }")
        start = 'join "a" as A, '
        rows = [
            (start + '"b" as B into J by t;', None),
            (start + '"b" as B into J by t else B;', None),
            (start + '"b" as B into A by t;', None),
            (start + '"b" as B into J by t else J;', BAD_WAY),
            (start + '"b" as B into J by t else C;', BAD_WAY),
            (start + '"a" as B into J by t;', BAD_WAY),
            (start + '"b" as A into J by t;', BAD_WAY),
            (start + '"b" as B, "c" as A into J by t;', BAD_WAY),
            (start + '"c" as C into J by t;', BAD_WAY),
            (start + '"d" as D into J by t;', BAD_WAY),
            (start + '"e" as E into J by t;', BAD_WAY),
            (start + '"f" as F, "b" as B into J by t;', None),
            ('join "b" as B, "c" as C into J by t;', BAD_WAY),
        ]
        for text, reason in rows:
            with self.subTest(text=text):
                if reason is None:
                    read_step(read_schema(elder), text)
                else:
                    self.assertEqual(self.told_fault(lambda: read_step(read_schema(elder), text)), (0, reason))

    def test_new_kinds(self):
        eight = " ".join(f"f{at}: int 0..1;" for at in range(8))
        self.check_faults(read, [
            ("new kind D { a: int 0..1; |a: int 0..1; };", "field twice"),
            ("new kind D { " + eight + " |g: int 0..1; };", "too many fields"),
            ("new kind D { a: ref A or |Z; };", NO_KIND),
            ("new kind D { key |a; };", NO_FIELD),
            ("new kind D { l: list A; key |l; };", "list in a key"),
            ("new kind D { a: int 0..1; key a, |a; };", "field twice"),
            ("new kind D { a: int 0..1; key a; key |a; };", "field in two keys"),
            ("new kind D { " + eight + " key f0; key f1; key f2; key |f3; };", "too many keys"),
            ("gone C.i; new kind D { a: ref |B; }; rename B to E; gone Z.a;", NO_KIND),
            ("|gone Z.a; new kind D { a: ref Z; };", NO_KIND),
        ])
        read("new kind D { a: ref E or D or F; }; rename B to E; new kind F { };")


if __name__ == "__main__":
    unittest.main()
