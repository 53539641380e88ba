"""Points [31] and [32]: what the lines of a step lose."""

import itertools
import unittest

from helper import step_of
from oneheap.objects.thing import blank_thing
from oneheap.schemas.sorts import ChoiceSort, IntSort
from oneheap.views.carry import first_elder_thing, first_thing
from oneheap.views.least import SIGNS
from oneheap.views.losses import losing

ALPHABET = ' !"#x|'


def losses_of(schema, text):
    """Return the contents of the losses of a step, without the texts of their lines."""
    return [(loss.one, loss.other) for loss in losing(step_of(schema, text))]


def allowed_values(field):
    """Return the allowed values of a field, in order; texts only of a few characters."""
    found = [] if field.needed else [None]
    if isinstance(field.shape, IntSort):
        return found + list(range(field.shape.low, field.shape.high + 1))
    if isinstance(field.shape, ChoiceSort):
        return found + field.shape.choices
    for length in range(field.shape.longest + 1):
        texts = ["".join(signs) for signs in itertools.product(ALPHABET, repeat=length)]
        found.extend(text for text in texts if field.shape.without is None or field.shape.without not in text)
    return found


def first_loss(step):
    """Return the first contents of the fields of kind A that do not come back, and what comes instead, or None."""
    kind = step.elder.kind_of("A")
    for values in itertools.product(*[allowed_values(field) for field in kind.fields]):
        elder = blank_thing(kind)
        elder.contents.update(zip(kind.names(), values))
        back = list(first_elder_thing(step, first_thing(step, elder)).contents.values())
        if back != list(values):
            return list(values), back
    return None


class SignsTest(unittest.TestCase):
    def test_all_characters_in_the_order_of_their_codes(self):
        self.assertEqual(SIGNS, "".join(chr(code) for code in range(32, 127) if code != 37))


class LosingTest(unittest.TestCase):
    def check_rows(self, rows):
        for schema, text, wanted in rows:
            with self.subTest(schema=schema, text=text):
                found = losses_of(schema, text)
                self.assertEqual(found, [] if wanted is None else [wanted])

    def check_all(self, rows):
        """Check that the losses of steps of one line are those of which all contents tell."""
        for fields, text in rows:
            with self.subTest(fields=fields, text=text):
                step = step_of("kind A { " + fields + " }", text)
                wanted = first_loss(step)
                self.assertEqual([(loss.one, loss.other) for loss in losing(step)], [] if wanted is None else [wanted])

    def test_lines_that_lose_nothing(self):
        schema = 'kind A { a: int 0..9; b: int 0..9; r: ref A; } kind B { b: int 0..1; } kind C { b: int 0..1; }'
        for text in ("rename A to D;", "rename A.a to z;", "new A.n: int 0..1 = 1;", "new kind N { a: int 0..1; };",
                     'join "b" as B, "c" as C into D by w;', "new key A (a); gone key A (a);", "new not null A.a;",
                     "deletes A.r takes;", "change A.r: ref B or C;", "change A.a: int 0..9;", ""):
            self.assertEqual(losses_of(schema, text), [], text)

    def test_gone_kinds(self):
        self.check_rows([("kind A { } kind B { a: int 0..1; }", "gone kind A;", ([], [])),
                         ("kind A { } kind B { a: int 0..1; }", "gone kind B;", ([], []))])

    def test_gone_fields(self):
        self.check_rows([
            ("kind A { a: int 3..9; }", "gone A.a;", ([3], [None])),
            ("kind A { a: int 3..9; }", "gone A.a = 3;", ([None], [3])),
            ("kind A { a: int 3..9 not null; }", "gone A.a = 3;", ([4], [3])),
            ("kind A { a: int 3..9 not null; }", "gone A.a = 5;", ([3], [5])),
            ("kind A { a: int 3..3 not null; }", "gone A.a = 3;", None),
            ("kind A { a: int 3..3 not null; }", "gone A.a;", ([3], [None])),
            ('kind A { a: one of "q", "b" not null; }', 'gone A.a = "q";', (["b"], ["q"])),
            ('kind A { a: one of "q", "b" not null; }', 'gone A.a = "b";', (["q"], ["b"])),
            ('kind A { a: one of "q" not null; }', 'gone A.a = "q";', None),
            ("kind A { a: text 5; }", "gone A.a;", ([""], [None])),
            ("kind A { a: text 5; }", 'gone A.a = "";', ([None], [""])),
            ("kind A { a: text 5 not null; }", 'gone A.a = "";', ([" "], [""])),
            ('kind A { a: text 1 without " " not null; }', 'gone A.a = "";', (["!"], [""])),
            ("kind A { a: text 5 not null; }", 'gone A.a = "b";', ([""], ["b"])),
        ])

    def test_gone_references_and_lists(self):
        self.check_rows([
            ("kind A { r: ref A; }", "gone A.r;", ([1], [None])),
            ("kind A { r: ref A takes not null; }", "gone A.r;", ([1], [None])),
            ("kind A { l: list A; }", "gone A.l;", ([[1]], [[]])),
        ])

    def test_changed_references_and_lists(self):
        self.check_rows([
            ("kind A { r: ref A; } kind B { }", "change A.r: ref B takes;", None),
            ("kind A { l: list A; } kind B { }", "change A.l: list B;", None),
        ])

    def test_changed_integers(self):
        self.check_rows([
            ("kind A { a: int 0..9; }", "change A.a: int 0..99;", None),
            ("kind A { a: int 0..9; }", "change A.a: int 0..8;", ([9], [None])),
            ("kind A { a: int 0..9; }", "change A.a: int 2..9;", ([0], [None])),
            ("kind A { a: int 0..9; }", "change A.a: int 2..99 else 99 back 0;", ([1], [0])),
            ("kind A { a: int 0..9; }", "change A.a: int 1..99 else 99 back 0;", None),
            ("kind A { a: int 0..9; }", "change A.a: int 1..8 back 0;", ([0], [None])),
            ("kind A { a: int 0..9; }", "change A.a: int 0..8 else 4;", ([9], [4])),
            ("kind A { a: int 0..9; }", "change A.a: int 10..99 else 10 back 0;", ([1], [0])),
            ("kind A { a: int 0..9; }", "change A.a: int 10..99 else 10;", ([0], [None])),
            ("kind A { a: int 0..9; }", "change A.a: int -1..7 else -1 back 8;", ([9], [8])),
            ("kind A { a: int -1000000000..1000000000; }", "change A.a: int -999999999..999999999;",
             ([-1000000000], [None])),
            ("kind A { a: int 0..9; }", "change A.a: text 5;", ([0], [None])),
            ("kind A { a: int 0..9; }", 'change A.a: text 5 else "0" back 0;', ([1], [0])),
            ("kind A { a: int 0..0; }", 'change A.a: text 5 else "0" back 0;', None),
            ("kind A { a: int 0..9 not null; }", 'change A.a: one of "a" back 3;', ([0], [None])),
        ])

    def test_changed_choices(self):
        self.check_rows([
            ('kind A { a: one of "x", "b", "c"; }', 'change A.a: one of "b";', (["x"], [None])),
            ('kind A { a: one of "x", "b", "c"; }', 'change A.a: one of "b" else "b";', (["x"], ["b"])),
            ('kind A { a: one of "x", "b", "c"; }', 'change A.a: one of "b", "d" else "d" back "x";', (["c"], ["x"])),
            ('kind A { a: one of "x", "b"; }', 'change A.a: one of "b", "d" else "d" back "x";', None),
            ('kind A { a: one of "x", "long"; }', 'change A.a: text 3;', (["long"], [None])),
            ('kind A { a: one of "x", "b"; }', 'change A.a: text 3;', None),
            ('kind A { a: one of "x", "b"; }', 'change A.a: int 0..9;', (["x"], [None])),
        ])

    def test_changed_texts(self):
        long = " " * 40
        self.check_rows([
            ("kind A { a: text 5; }", "change A.a: text 6;", None),
            ("kind A { a: text 5; }", "change A.a: text 4;", (["     "], [None])),
            ("kind A { a: text 5; }", 'change A.a: text 4 else "x";', (["     "], ["x"])),
            ("kind A { a: text 5; }", 'change A.a: text 4 back "     ";', (["     "], [None])),
            ('kind A { a: text 5 without " "; }', "change A.a: text 4;", (["!!!!!"], [None])),
            ("kind A { a: text 40; }", "change A.a: text 39;", ([long], [None])),
            ("kind A { a: text 5; }", 'change A.a: text 5 without "-";', (["-"], [None])),
            ("kind A { a: text 5; }", 'change A.a: text 5 without " ";', ([" "], [None])),
            ('kind A { a: text 5 without "-"; }', 'change A.a: text 5 without "-";', None),
            ('kind A { a: text 5 without "-"; }', 'change A.a: text 3 without "-";', (["    "], [None])),
            ("kind A { a: text 5; }", "change A.a: int 0..9;", ([""], [None])),
            ("kind A { a: text 5; }", 'change A.a: int 0..9 else 0 back "";', ([" "], [""])),
            ("kind A { a: text 5; }", 'change A.a: one of "", " ", "#";', (["!"], [None])),
            ("kind A { a: text 1; }", 'change A.a: one of "", "!", "\\"", " ", "#", "$", "&", "\'";', (["("], [None])),
        ])

    def test_what_comes_instead_can_be_the_least_text(self):
        self.check_rows([
            ("kind A { a: text 5; }", 'change A.a: text 5 without "-" else "y" back "-";', (["-"], ["y"])),
            ("kind A { a: text 5; }", 'change A.a: one of "y" else "y" back "-";', ([""], ["y"])),
            ("kind A { a: text 5; }", 'change A.a: int 5..5 else 5 back "-";', ([""], ["-"])),
            ("kind A { a: text 2; }", 'change A.a: text 9 without "-" else "abcdef" back "-";', ([" -"], ["-"])),
            ("kind A { a: text 2; }", 'change A.a: text 9 without "!" else "abcdef" back "!";', ([" !"], ["!"])),
            ("kind A { a: text 2; }", 'change A.a: text 9 without " " else "abcdef" back " ";', (["  "], [" "])),
            ("kind A { a: text 1; }", 'change A.a: text 9 without "-" else "abcdef" back "-";', None),
            ("kind A { a: text 2; }", 'change A.a: text 1 back "  ";', (["  "], [None])),
        ])

    def test_forms(self):
        one = "replace A (a) by (s: int -99..99) as "
        two = "replace A (a, b) by (s: int -99..99) as "
        pair = "kind A { a: int 0..9 not null; b: int 2..5 not null; }"
        self.check_rows([
            ("kind A { a: int 0..9; }", one + "(3 * a + 1);", None),
            ("kind A { a: int 2..9; }", one + "(7);", ([3], [2])),
            ("kind A { a: int 2..2; }", one + "(7);", None),
            ("kind A { a: int 0..9; b: int 2..5; }", two + "(6 * a + b);", ([None, 2], [None, None])),
            ("kind A { a: int 0..9 not null; b: int 2..5; }", two + "(6 * a + b);", ([0, None], [None, None])),
            ("kind A { a: int 0..9; b: int 2..5 not null; }", two + "(6 * a + b);", ([None, 2], [None, None])),
            (pair, two + "(6 * a + b);", None),
            (pair, two + "(a + b);", ([1, 2], [0, 3])),
            (pair, two + "(a + -1 * b);", ([1, 3], [0, 2])),
            (pair, two + "(-2 * a + -4 * b);", ([2, 2], [0, 3])),
            (pair, two + "(2 * a + -4 * b);", ([2, 3], [0, 2])),
            (pair, two + "(4 * a + b);", None),
            (pair, two + "(4 * a + -1 * b);", None),
            (pair, two + "(a + 10 * b);", None),
            (pair, "replace A (a, b) by (k: int 5..5, s: int 0..99) as (5, a + b);", ([1, 2], [0, 3])),
            (pair, two + "(3 * a + b);", ([1, 2], [0, 5])),
            (pair, "replace A (a, b) by (s: int 0..99, d: int -9..9) as (a + b, a + -1 * b);", None),
            (pair, "replace A (a, b) by (s: int 0..99, d: int 0..99) as (a + b, 2 * a + 2 * b);", ([1, 2], [0, 3])),
        ])

    def test_wide_forms(self):
        # The sums are wider than any shape, so both fields stay narrow enough for their sum.
        schema = "kind A { a: int -500000000..500000000 not null; b: int -500000000..500000000 not null; }"
        self.check_rows([
            (schema, "replace A (a, b) by (s: int -1000000000..1000000000) as (a + b);",
             ([-499999999, -500000000], [-500000000, -499999999])),
            ("kind A { a: int 0..999 not null; b: int 0..999 not null; }",
             "replace A (a, b) by (s: int 0..1000000) as (a + 100 * b);", ([100, 0], [0, 1])),
        ])

    def test_tables(self):
        table = 'replace A (c, n) by (u: int 0..9) table ("y", 1) -> (1), ("x", 1) -> (1), ("y", 2) -> (2), ("x", 2) -> (3)'
        other = 'replace A (c, n) by (u: int 0..9) table ("y", 1) -> (1), ("x", 1) -> (4), ("y", 2) -> (2), ("x", 2) -> (3)'
        self.check_rows([
            ('kind A { c: one of "x", "y" not null; n: int 1..2 not null; }', table + ";", (["x", 1], ["y", 1])),
            ('kind A { c: one of "x", "y" not null; n: int 1..2 not null; }', other + ";", None),
            ('kind A { c: one of "x", "y"; n: int 1..2; }', other + ";", ([None, 1], [None, None])),
            ('kind A { c: one of "x", "y"; n: int 1..2 not null; }', other + ";", ([None, 1], [None, None])),
            ('kind A { c: one of "x", "y" not null; n: int 1..2; }', other + ";", (["x", None], [None, None])),
            ('kind A { c: one of "x", "y"; }', 'replace A (c) by (u: int 0..9) table ("x") -> (1), ("y") -> (2);', None),
            ('kind A { c: one of "x", "y"; }', 'replace A (c) by (u: int 0..9) table ("y") -> (1), ("x") -> (1) back ("x");',
             (["x"], ["y"])),
        ])

    def test_texts(self):
        schema = "kind A { a: text 3 without \"-\"NEEDED; b: text 3; }"
        join = 'replace A (a, b) by (t: text 9) join "-"'
        self.check_rows([
            ("kind A { a: text 3; }", 'replace A (a) by (p: text 3 without "-", q: text 2) split "-" back ("x");', None),
            (schema.replace("NEEDED", ""), join + ";", ([None, ""], [None, None])),
            (schema.replace("NEEDED", "").replace("b: text 3", "b: text 3 not null"), join + ' back ("a", "b");',
             ([None, ""], [None, None])),
            (schema.replace("NEEDED", " not null"), join + ";", None),
        ])

    def test_splits_of_kinds(self):
        schema = 'kind A { n: int 0..1; c: one of "x", "y"; }'
        needed = 'kind A { n: int 0..1; c: one of "x", "y" not null; }'
        split = 'split A by c into "y" as Y, "x" as X'
        self.check_rows([
            (schema, split + ";", ([None], ["y"])),
            (schema, split + " else X;", ([None], ["x"])),
            (needed, split + ";", None),
            (needed, split + " else X;", None),
        ])

    def test_several_lines_in_their_order(self):
        step = step_of(
            'kind A { a: int 0..9; b: int 0..9; r: ref A; c: text 5; } kind B { } kind C { t: one of "x", "y"; }',
            'gone A.b=3;change A.a:int 0..8 else 4; split C by t into "x" as X, "y" as Y; rename A.c to d; '
            'gone kind B; gone A.r; new not null A.d;',
        )
        found = [(loss.line, loss.one, loss.other) for loss in losing(step)]
        self.assertEqual(found, [
            ("gone A.b = 3;", [None], [3]),
            ("change A.a: int 0..8 else 4;", [9], [4]),
            ('split C by t into "x" as X, "y" as Y;', [None], ["x"]),
            ("gone kind B;", [], []),
            ("gone A.r;", [1], [None]),
        ])

    def test_against_all_contents(self):
        shapes = ("int -1..2", "int 1..1", "text 2", 'text 2 without " "', 'text 1 without "!"', 'text 3 without "x"',
                  'one of "x", "", " !"', 'one of "!"')
        rows = []
        for shape, other in itertools.product(shapes, shapes):
            for needed in ("", " not null"):
                rows.append((f"a: {shape}{needed};", f"change A.a: {other};"))
            if shape.startswith("text") and other.startswith("text"):
                rows.append((f"a: {shape};", f'change A.a: {other} back "";'))
                rows.append((f"a: {shape};", f'change A.a: {other} else "";'))
        self.check_all(rows)

    def test_forms_against_all_contents(self):
        rows = []
        for first, second in itertools.product((-4, -3, -2, -1, 1, 2, 4), repeat=2):
            form = f"{first} * a + {second} * b"
            text = f"replace A (a, b) by (s: int -99..99) as ({form});"
            rows.append(("a: int -1..3 not null; b: int 2..4 not null;", text))
        rows.append(("a: int -1..3; b: int 2..4 not null;", "replace A (a, b) by (s: int -99..99) as (a + b);"))
        rows.append(("a: int -1..3 not null; b: int 2..4;", "replace A (a, b) by (s: int -99..99) as (a + b);"))
        self.check_all(rows)


if __name__ == "__main__":
    unittest.main()
