"""Late lines, and what is checked of a whole step."""

import unittest

from helper import FaultCase

from oneheap.schemas.reading import read_schema, write_schema
from oneheap.steps.step import read_step

ELDER = (
    "kind A { a: int 0..1 not null; b: int 0..1; c: int 0..1; d: int 0..1; r: ref A or B; s: ref B takes not null; "
    "l: list B; key a; key c, d; } kind B { a: int 0..1; key a; }"
)


def read(text):
    return read_step(read_schema(ELDER), text)


class LateTest(FaultCase):
    def check(self, text, *changes):
        expected = ELDER
        for old, new in changes:
            self.assertIn(old, expected)
            expected = expected.replace(old, new)
        with self.subTest(text=text):
            self.assertEqual(write_schema(read(text).younger), expected)

    def test_keys(self):
        self.check("new key A (b);", ("key c, d;", "key c, d; key b;"))
        self.check("new key A (s, b, r);", ("key c, d;", "key c, d; key s, b, r;"))
        self.check("gone key A (a);", ("key a; key c", "key c"))
        self.check("gone key A (c, d);", (" key c, d;", ""))
        self.check("gone key A (a); new key A (b, a);", ("key a; key c, d;", "key c, d; key b, a;"))
        self.check("gone key A (a); new key A (a);", ("key a; key c, d;", "key c, d; key a;"))
        self.check("gone key A (c, d); new key A (d); new key A (c);", ("key c, d;", "key d; key c;"))

    def test_needed_fields(self):
        self.check("new not null A.b;", ("b: int 0..1;", "b: int 0..1 not null;"))
        self.check("new not null A.r;", ("r: ref A or B;", "r: ref A or B not null;"))
        self.check("gone not null A.a;", ("a: int 0..1 not null;", "a: int 0..1;"))
        self.check("gone not null A.a; new not null A.a;")
        self.check("new not null A.b; gone not null A.b;")

    def test_rules(self):
        self.check("deletes A.r refuses;", ("r: ref A or B;", "r: ref A or B refuses;"))
        self.check("deletes A.s clears;", ("s: ref B takes not null;", "s: ref B not null;"))
        self.check("deletes A.s refuses; deletes A.s takes;")
        self.check("deletes A.s takes;")

    def test_names_are_younger(self):
        self.check("rename A.b to z; new key A (z); new not null A.z;",
                   ("b: int 0..1;", "z: int 0..1 not null;"), ("key c, d;", "key c, d; key z;"))
        self.check_fault(read, "rename A.b to z; |new key A (b);", "no such field")
        self.check_fault(read, "rename A to Z; |new not null A.b;", "no such kind")
        self.check_fault(read, "rename A.a to z; |gone key A (a);", "no such key")
        self.check("rename A.a to z; gone key A (z);", ("A { a:", "A { z:"), ("key a; key c", "key c"))

    def check_behind_others(self, rows):
        """Check each fault of a line that stands alone, and of the same line behind another one."""
        self.check_faults(read, rows)
        self.check_faults(read, [("rename B.a to zz; " + text, reason) for text, reason in rows])

    def test_faults_of_keys(self):
        self.check_behind_others([
            ("|new key Z (a);", "no such kind"),
            ("|gone key Z (a);", "no such kind"),
            ("|gone key A (b);", "no such key"),
            ("|gone key A (d, c);", "no such key"),
            ("|gone key A (c);", "no such key"),
            ("|gone key A (z);", "no such key"),
            ("gone key A (a); |gone key A (a);", "no such key"),
            ("|new key A (z);", "no such field"),
            ("|new key A (b, z);", "no such field"),
            ("|new key A (l);", "list in a key"),
            ("|new key A (l, z);", "list in a key"),
            ("|new key A (z, l);", "no such field"),
            ("|new key A (b, b);", "field twice"),
            ("|new key A (b, z, b);", "field twice"),
            ("|new key A (a, a);", "field twice"),
            ("|new key A (a);", "field in two keys"),
            ("|new key A (a, z);", "field in two keys"),
            ("|new key A (b, d);", "field in two keys"),
            ("new key A (b); |new key A (b);", "field in two keys"),
            ("new key A (b); rename B to C; |new key A (b);", "field in two keys"),
        ])

    def test_faults_of_needed_fields(self):
        self.check_behind_others([
            ("|new not null Z.a;", "no such kind"),
            ("|gone not null Z.a;", "no such kind"),
            ("|new not null A.z;", "no such field"),
            ("|gone not null A.z;", "no such field"),
            ("|new not null A.l;", "list not null"),
            ("|gone not null A.l;", "list not null"),
            ("|new not null A.a;", "nothing changes"),
            ("|gone not null A.b;", "nothing changes"),
            ("gone not null A.a; |gone not null A.a;", "nothing changes"),
            ("new not null A.b; |new not null A.b;", "nothing changes"),
        ])

    def test_faults_of_rules(self):
        self.check_behind_others([
            ("|deletes Z.r takes;", "no such kind"),
            ("|deletes A.z takes;", "no such field"),
            ("|deletes A.a takes;", "no reference"),
            ("|deletes A.l takes;", "no reference"),
            ("rename A.r to q; |deletes A.r takes;", "no such field"),
        ])

    def test_other_lines_come_first(self):
        self.check_faults(read, [
            ("new key Z (a); |gone kind Y;", "no such kind"),
            ("new key A (z); new not null A.a; |gone A.y;", "no such field"),
            ("|new key Z (a); new not null A.a;", "no such kind"),
        ])


class WholeTest(FaultCase):
    def check_whole(self, elder, text, reason):
        with self.subTest(text=text):
            self.assertEqual(self.told_fault(lambda: read_step(read_schema(elder), text)), (0, reason))

    def test_no_kind_is_left(self):
        self.check_whole("kind A { }", "gone kind A;", "no kind is left")
        self.check_whole("kind A { a: ref B; } kind B { }", "gone kind B;", "no kind is left")
        self.check_whole("kind A { a: list B; } kind B { }", "gone kind B;", "no kind is left")
        self.check_whole("kind A { a: ref B or C; } kind B { } kind C { }", "gone kind B; gone kind C;", "no kind is left")
        read_step(read_schema("kind A { a: ref B or A; } kind B { }"), "gone kind B;")
        read_step(read_schema("kind A { a: ref B; } kind B { }"), "gone kind B; gone A.a;")
        read_step(read_schema("kind A { a: ref B; } kind B { }"), "gone kind B; change A.a: ref A;")
        read_step(read_schema("kind A { }"), "gone kind A; new kind A { };")

    def test_faults_of_the_younger_text(self):
        elder = "kind A { a: int 0..1; b: int 0..1; key a; } kind B { } kind C { r: ref A or B; }"
        self.check_whole(elder, "rename A to B;", "kind twice")
        self.check_whole(elder, "new kind A { };", "kind twice")
        self.check_whole(elder, "rename A to B; rename B to D; new kind D { };", "kind twice")
        self.check_whole(elder, "rename A.a to b;", "field twice")
        self.check_whole(elder, "new A.a: int 0..1;", "field twice")
        self.check_whole(elder, "new A.z: int 0..1; new A.z: text 3;", "field twice")
        self.check_whole(elder, "replace A (a) by (b: int 0..1) as (a);", "field twice")
        self.check_whole(elder, "replace A (a) by (z: int 0..1, z: int 0..1) as (a, a);", "field twice")
        self.check_whole(elder, 'join "a" as A into D by a;', "field twice")
        self.check_whole(elder, 'join "b" as B into A by t;', "kind twice")
        read_step(read_schema(elder), "rename A to B; rename B to A; rename A.a to b; rename A.b to a;")

    def test_faults_of_sizes(self):
        eight = " ".join(f"kind K{at} {{ }}" for at in range(8))
        self.check_whole(eight, "new kind A { };", "too many kinds")
        self.check_whole(eight, "new kind K0 { };", "kind twice")
        fields = " ".join(f"f{at}: int 0..1;" for at in range(8))
        self.check_whole("kind A { " + fields + " }", "new A.a: int 0..1;", "too many fields")
        self.check_whole("kind A { " + fields + " }", 'join "a" as A into B by t;', "too many fields")
        self.check_whole("kind A { " + fields + " key f0; key f1; key f2; }", "new key A (f3);", "too many keys")
        self.check_whole("kind A { }", 'join "' + "a" * 41 + '" as A into B by t;', "bad length")

    def test_more_choices_than_a_choice_has(self):
        # A join has at most eight kinds, so its choice has at most eight texts.
        kinds = " ".join(f"kind K{at} {{ }}" for at in range(8))
        branches = ", ".join(f'"{at}" as K{at}' for at in range(8))
        step = read_step(read_schema(kinds), f"join {branches} into A by t;")
        self.assertEqual(len(step.younger.kinds[0].fields[0].shape.choices), 8)

    def test_no_kind_comes_ahead_of_the_text(self):
        self.check_whole("kind A { a: ref B; b: int 0..1; } kind B { }", "gone kind B; rename A.b to a;", "no kind is left")

    def long_schema(self, length):
        """Return the text of a schema that is as long when written."""
        choices = ", ".join(f'"{sign * 20}"' for sign in "abcdef")
        text = " ".join(f"kind K{at} {{ f: one of {choices}; }}" for at in range(5)) + " kind Z { f: one of "
        rest = length - len(text) - len('"", "", "", ""; }')
        parts = [rest - 3 * (rest // 4), rest // 4, rest // 4, rest // 4]
        return text + ", ".join(f'"{sign * part}"' for sign, part in zip("abcd", parts)) + "; }"

    def test_long_younger_schemas(self):
        elder = self.long_schema(998)
        self.assertEqual(write_schema(read_schema(elder)), elder)
        self.assertEqual(len(elder), 998)
        step = read_step(read_schema(elder), "rename Z to Zzz;")
        self.assertEqual(len(write_schema(step.younger)), 1000)
        self.check_whole(elder, "rename Z to Zzzz;", "too long when written")
        self.check_whole(elder, "new kind Z { };", "too long when written")
        self.check_whole(elder, "rename K0 to K1;", "kind twice")

    def test_long_steps(self):
        elder = read_schema("kind A { a: int 0..0; }")
        for length in (1000, 1001):
            name = "b"
            while True:
                start = f"replace A (a) by ({name}: int 0..0) as ("
                many, rest = divmod(length - len(start) - len("a);"), len(" + a"))
                if rest == 0:
                    break
                name += "b"
            text = start + "+".join(["a"] * (many + 1)) + ");"
            if length == 1000:
                self.assertEqual(len(read_step(elder, text).written()), length)
            else:
                self.assertEqual(self.told_fault(lambda: read_step(elder, text)), (0, "too long when written"))

    def test_a_long_schema_comes_ahead_of_its_faults_and_a_long_step_behind(self):
        elder = "kind A { a: int 0..0; b: int 0..0; }"
        start = "replace A (a) by (b: int -9..9) as ("
        text = start + "+".join(["a"] * 300) + ");"
        self.check_whole(elder, text, "field twice")
        self.check_whole(elder, text.replace("(b:", "(c:"), "too long when written")


if __name__ == "__main__":
    unittest.main()
