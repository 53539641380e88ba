import unittest

from helper import FaultCase, padded

from oneheap.schemas.reading import read_schema, write_schema
from oneheap.schemas.schema import Schema
from oneheap.steps.step import Step, read_step, write_step
from oneheap.steps.ways import Form

ELDER = read_schema(
    'kind Book { title: text 20 not null; price: int 0..99; state: one of "new", "old"; author: ref Author; '
    "also: list Book; key title; } "
    'kind Author { name: text 20; first: text 9 without " "; last: text 10; } '
    'kind Time { h: int 0..23; m: int 0..59; } kind Spare { a: int 0..1; }'
)

LINES = [
    "rename Book to Tome;",
    "rename Book.price to cents;",
    "rename Book.price to to;",
    "change Book.price: int 0..9;",
    "change Book.price: int 0..9 else 3;",
    "change Book.price: int 0..9 back 99;",
    'change Book.price: text 5 without "-" else "a\\"b" back 0;',
    "change Book.author: ref Book or Author takes;",
    "change Book.also: list Author;",
    "new Book.many: int -5..5;",
    "new Book.many: int -5..5 = -3;",
    'new Book.word: one of "", "x" = "";',
    "new Book.other: ref Spare refuses;",
    "gone Book.price;",
    "gone Book.price = 5;",
    "gone Book.also;",
    "replace Time (h, m) by (t: int 0..1439) as (60 * h + m);",
    "replace Time (h, m) by (a: int -59..23, b: int 5..5) as (h + -1 * m, 2 + 3 + 0 * h);",
    "replace Time (h) by (a: int -23..0) as (-1 * h) back (5);",
    "replace Time (h) by (a: int 0..23) as (h) back (null);",
    "replace Spare (a) by (b: text 3) table (0) -> (\"no\"), (1) -> (\"yes\");",
    "replace Spare (a) by (b: text 3, c: int -9..9) table (1) -> (\"no\", -9), (0) -> (\"\", 0) back (1);",
    "replace Author (name) by (a: text 20 without \" \", b: text 19) split \" \";",
    "replace Author (first, last) by (all: text 20) join \" \" back (\"x\", null);",
    'replace Spare (a) by (b: one of "x", "y", c: one of "z", d: int 0..1) table (0) -> ("x", "z", 0), '
    '(1) -> ("y", "z", 1);',
    'split Book by state into "old" as Old, "new" as New;',
    'split Book by state into "old" as Old, "new" as New else New;',
    'join "t" as Time, "s" as Spare into Both by which;',
    'join "t" as Time, "" as Spare into Both by which else Spare;',
    "new kind Empty { };",
    "new kind More { a: text 3 not null; b: list More or Book; key a; };",
    "gone kind Spare;",
    "new key Book (price, author);",
    "gone key Book (title);",
    "new not null Book.price;",
    "gone not null Book.title;",
    "deletes Book.author takes;",
    "deletes Book.author clears;",
    "deletes Book.author refuses;",
]


def read(text):
    return read_step(ELDER, text)


def spaced(text):
    """Return the line with more blanks between its tokens."""
    for sign in "(){}:;,=+*":
        text = text.replace(sign, f" {sign} ")
    return "  " + text.replace(" ", "  ")


class WrittenTest(FaultCase):
    def test_each_line(self):
        for line in LINES:
            with self.subTest(line=line):
                step = read(line)
                self.assertIsInstance(step, Step)
                self.assertEqual(len(step.lines), 1)
                self.assertEqual(step.written(), line)
                self.assertEqual(write_step(step), line)

    def test_more_blanks(self):
        for line in LINES:
            if '"a\\"b"' in line or '" "' in line:
                continue
            with self.subTest(line=line):
                self.assertEqual(read(spaced(line)).written(), line)

    def test_fewer_blanks(self):
        rows = [
            ("replace Time(h,m)by(t:int 0..1439)as(60*h+m);",
             "replace Time (h, m) by (t: int 0..1439) as (60 * h + m);"),
            ('replace Spare(a)by(b:text 3)table(0)->("n"),(1)->("y")back(1);',
             'replace Spare (a) by (b: text 3) table (0) -> ("n"), (1) -> ("y") back (1);'),
            ("rename Book . price to cents;", "rename Book.price to cents;"),
            ("new Book.many:int- 5..5=- 3;", "new Book.many: int -5..5 = -3;"),
            ("gone key Book(title);new key Book(price,title);",
             "gone key Book (title); new key Book (price, title);"),
            ("gone kind Spare;new kind Empty{};", "gone kind Spare; new kind Empty { };"),
        ]
        for text, line in rows:
            self.assertEqual(read(text).written(), line)

    def test_what_is_not_written(self):
        rows = [
            ("change Book.price: int 0..9 else null back null;", "change Book.price: int 0..9;"),
            ("new Book.many: int 0..5 = null;", "new Book.many: int 0..5;"),
            ("gone Book.price = null;", "gone Book.price;"),
            ("new Book.others: list Book = null;", "new Book.others: list Book;"),
            ("replace Time (h, m) by (t: int 0..1439) as (60 * h + 1 * m + 0);",
             "replace Time (h, m) by (t: int 0..1439) as (60 * h + m + 0);"),
            ("replace Time (h) by (a: int 0..23) as (- 0 + h) back (null);",
             "replace Time (h) by (a: int 0..23) as (0 + h) back (null);"),
            ("deletes Book.author clears;", "deletes Book.author clears;"),
            ("change Book.author: ref Book clears;", "change Book.author: ref Book;"),
        ]
        for text, line in rows:
            with self.subTest(text=text):
                self.assertEqual(read(text).written(), line)

    def test_several_lines_stay_in_their_order(self):
        text = ("new key Book (cents); rename Book.price to cents; deletes Book.author takes; gone kind Spare; "
                "gone key Book (title);")
        step = read(text)
        self.assertEqual(step.written(), text)
        self.assertEqual(len(step.lines), 5)

    def test_the_empty_text(self):
        for text in ("", "   "):
            step = read(text)
            self.assertEqual((step.lines, step.written()), ([], ""))
            self.assertEqual(write_schema(step.younger), write_schema(ELDER))

    def test_fields_of_a_step(self):
        step = read("rename Book to Tome;")
        self.assertEqual(write_schema(step.elder), write_schema(ELDER))
        self.assertIsInstance(step.younger, Schema)
        again = Step(step.lines, step.elder, step.younger)
        self.assertEqual(again.written(), "rename Book to Tome;")
        self.assertEqual(again.young_kin("Book"), ["Tome"])

    def test_nothing_is_shared(self):
        step = read("rename Book to Tome;")
        lines = list(step.lines)
        again = Step(lines, step.elder, step.younger)
        lines.clear()
        self.assertEqual((again.written(), again.young_kin("Book")), ("rename Book to Tome;", ["Tome"]))
        terms = [(1, "h")]
        form = Form(terms)
        terms.clear()
        self.assertEqual(form.terms, [(1, "h")])

    def test_forms(self):
        form = Form([(60, "h"), (1, "m"), (-5, None)])
        self.assertEqual(form.terms, [(60, "h"), (1, "m"), (-5, None)])
        way = read("replace Time (h, m) by (t: int 0..1439) as (60 * h + m);").lines[0].way
        self.assertEqual(way.forms[0].terms, [(60, "h"), (1, "m")])


class SizeTest(FaultCase):
    def test_lines(self):
        lines = ["new Book.a: int 0..1;", "new Book.b: int 0..1;"] + ["deletes Book.author takes;"] * 10
        self.assertEqual(len(read(" ".join(lines)).lines), 12)
        self.check_fault(read, " ".join(lines) + " |deletes Book.author takes;", "too many lines")
        self.check_fault(read, " ".join(lines) + " |;", "too many lines")
        self.check_fault(read, " ".join(lines) + ' |"oops"', "too many lines")

    def test_length(self):
        self.assertEqual(read(padded("rename Book to Tome;", 1000)).written(), "rename Book to Tome;")
        self.assertEqual(self.told_fault(lambda: read(padded("rename Book to Tome;", 1001))), (0, "text too long"))


class GrammarFaultTest(FaultCase):
    def test_lines(self):
        self.check_faults(read, [
            ("|;", "expected a line"),
            ("|Book;", "expected a line"),
            ("|kind A { };", "expected a line"),
            ('|"new" kind A { };', "expected a line"),
            ("rename Book to Tome; |;", "expected a line"),
            ("rename Book to Tome|", "expected ;"),
            ("rename Book to Tome |rename Author to Poet;", "expected ;"),
            ("|needs Book;", "expected a line"),
            ("rename Book |_to", "unexpected sign"),
        ])

    def test_rename(self):
        self.check_faults(read, [
            ("rename |;", "expected a kind"),
            ("rename |book;", "expected a kind"),
            ("rename Book |;", "expected to"),
            ("rename Book |by Tome;", "expected to"),
            ('rename Book |"to" Tome;', "expected to"),
            ("rename Book to |tome;", "expected a kind"),
            ("rename Book.|Price to cents;", "expected a field"),
            ("rename Book.price |cents;", "expected to"),
            ("rename Book.price|.x to y;", "expected to"),
            ("rename Book.price to |Cents;", "expected a field"),
            ("rename Book.price to |not;", "expected a field"),
        ])

    def test_change(self):
        self.check_faults(read, [
            ("change |price: int 0..1;", "expected a kind"),
            ("change Book|: int 0..1;", "expected ."),
            ("change Book.|: int 0..1;", "expected a field"),
            ("change Book.price |int 0..1;", "expected :"),
            ("change Book.price: |5;", "expected a sort"),
            ("change Book.price: int |2..1;", "bad bounds"),
            ("change Book.price: text |41;", "bad length"),
            ("change Book.price: int 0..1 |not null;", "expected ;"),
            ("change Book.price: one of \"x\", |y;", "expected a text"),
            ("new kind A { a: one of \"x\", |y: int 0..1; };", "expected a text"),
            ("change Book.price: int 0..1 else |;", "expected a value"),
            ("change Book.price: int 0..1 else |not;", "expected a value"),
            ("change Book.price: int 0..1 else -|;", "expected a number"),
            ("change Book.price: int 0..1 back 1 |else 1;", "expected ;"),
            ("change Book.price: int 0..1 back |(1);", "expected a value"),
            ("change Book.price: int 0..1 |= 1;", "expected ;"),
            ("change Book.author: ref Book or |Book;", "kind twice"),
        ])

    def test_new_and_gone(self):
        self.check_faults(read, [
            ("new |;", "expected a kind"),
            ("new |book.a: int 0..1;", "expected a kind"),
            ("new |null Book.a;", "expected a kind"),
            ("new |table;", "expected a kind"),
            ('new |"kind" A { };', "expected a kind"),
            ("new Book|;", "expected ."),
            ("new Book.|A: int 0..1;", "expected a field"),
            ("new Book.a |int 0..1;", "expected :"),
            ("new Book.a: int 0..1 = |;", "expected a value"),
            ("new Book.a: int 0..1 |else 1;", "expected ;"),
            ("new kind |a { };", "expected a kind"),
            ("new kind A |;", "expected {"),
            ("new kind A { |A };", "expected a field"),
            ("new kind A { a: list A |not null; };", "list not null"),
            ("new kind A { a: int 0..1; }|", "expected ;"),
            ("new key |a;", "expected a kind"),
            ("new key Book |price;", "expected ("),
            ("new key Book (|);", "expected a field"),
            ("new key Book (price|;", "expected )"),
            ("new key Book (price |title);", "expected )"),
            ("new not |Book.price;", "expected null"),
            ("new not null |price;", "expected a kind"),
            ("new not null Book|;", "expected ."),
            ("gone |;", "expected a kind"),
            ("gone |null;", "expected a kind"),
            ("gone Book|;", "expected ."),
            ("gone Book.price |: int 0..1;", "expected ;"),
            ("gone Book.price = |(5);", "expected a value"),
            ("gone kind |book;", "expected a kind"),
            ("gone kind Spare |{ };", "expected ;"),
            ("gone key Book|.title;", "expected ("),
            ("gone not null Book.|Title;", "expected a field"),
        ])

    def test_replace(self):
        self.check_faults(read, [
            ("replace |time (h) by (a: int 0..1) as (h);", "expected a kind"),
            ("replace Time |h by (a: int 0..1) as (h);", "expected ("),
            ("replace Time (|) by (a: int 0..1) as (h);", "expected a field"),
            ("replace Time (h, |) by (a: int 0..1) as (h);", "expected a field"),
            ("replace Time (h |m) by (a: int 0..1) as (h);", "expected )"),
            ("replace Time (h) |(a: int 0..1) as (h);", "expected by"),
            ("replace Time (h) by |a: int 0..1 as (h);", "expected ("),
            ("replace Time (h) by (a |int 0..1) as (h);", "expected :"),
            ("replace Time (h) by (a: |h) as (h);", "expected a sort"),
            ("replace Time (h) by (a: int 0..1 |not null) as (h);", "expected )"),
            ("replace Time (h) by (a: int 0..1|;) as (h);", "expected )"),
            ("replace Time (h) by (a: one of \"x\", |5) as (h);", "expected a text"),
            ("replace Time (h) by (a: one of \"x\", \"y\" |b: int 0..1) as (h);", "expected )"),
            ("replace Time (h) by (a: one of \"x\", b|, c: int 0..1) as (h);", "expected :"),
            ("replace Time (h) by (a: one of \"x\", |\"x\", c: int 0..1) as (h);", "choice twice"),
            ("replace Time (h) by (a: int 0..1) |;", "expected a way"),
            ("replace Time (h) by (a: int 0..1) |back (h);", "expected a way"),
            ("replace Time (h) by (a: int 0..1) as |h;", "expected ("),
            ("replace Time (h) by (a: int 0..1) as (|);", "expected a number"),
            ("replace Time (h) by (a: int 0..1) as (|Time);", "expected a field"),
            ("replace Time (h) by (a: int 0..1) as (|null);", "expected a field"),
            ("replace Time (h) by (a: int 0..1) as (|\"h\");", "expected a number"),
            ("replace Time (h) by (a: int 0..1) as (-|h);", "expected a number"),
            ("replace Time (h) by (a: int 0..1) as (2 * |3);", "expected a field"),
            ("replace Time (h) by (a: int 0..1) as (2 |h);", "expected )"),
            ("replace Time (h) by (a: int 0..1) as (h |* 2);", "expected )"),
            ("replace Time (h) by (a: int 0..1) as (h |- 2);", "expected )"),
            ("replace Time (h) by (a: int 0..1) as (h + |);", "expected a number"),
            ("replace Time (h) by (a: int 0..1) as (h, |);", "expected a number"),
            ("replace Time (h) by (a: int 0..1) table |0 -> 1;", "expected ("),
            ("replace Time (h) by (a: int 0..1) table (|) -> (1);", "expected a value"),
            ("replace Time (h) by (a: int 0..1) table (0, |) -> (1);", "expected a value"),
            ("replace Time (h) by (a: int 0..1) table (0|;", "expected )"),
            ("replace Time (h) by (a: int 0..1) table (0) |(1);", "expected ->"),
            ("replace Time (h) by (a: int 0..1) table (0) |- (1);", "expected ->"),
            ("replace Time (h) by (a: int 0..1) table (0) - |> (1);", "unexpected sign"),
            ("replace Time (h) by (a: int 0..1) table (0) -> (1) |(2) -> (1);", "expected ;"),
            ("replace Time (h) by (a: int 0..1) table (0) -> (1), |;", "expected ("),
            ("replace Author (name) by (a: text 1) split |;", "expected a text"),
            ("replace Author (name) by (a: text 1) join |-;", "expected a text"),
            ("replace Time (h) by (a: int 0..1) as (h) back |5;", "expected ("),
            ("replace Time (h) by (a: int 0..1) as (h) back (|);", "expected a value"),
            ("replace Time (h) by (a: int 0..1) as (h) |else (5);", "expected ;"),
        ])

    def test_split_and_join(self):
        self.check_faults(read, [
            ("split |book by state into \"a\" as A;", "expected a kind"),
            ("split Book |state into \"a\" as A;", "expected by"),
            ("split Book by |State into \"a\" as A;", "expected a field"),
            ("split Book by state |\"a\" as A;", "expected into"),
            ("split Book by state into |A;", "expected a text"),
            ("split Book by state into \"a\" |A;", "expected as"),
            ("split Book by state into \"a\" as |a;", "expected a kind"),
            ("split Book by state into \"a\" as A |\"b\" as B;", "expected ;"),
            ("split Book by state into \"a\" as A, |;", "expected a text"),
            ("split Book by state into \"a\" as A else |;", "expected a kind"),
            ("split Book by state into \"a\" as A |back A;", "expected ;"),
            ("join |Time into Both by which;", "expected a text"),
            ("join \"t\" |Time into Both by which;", "expected as"),
            ("join \"t\" as |time into Both by which;", "expected a kind"),
            ("join \"t\" as Time, |into Both by which;", "expected a text"),
            ("join \"t\" as Time |by which;", "expected into"),
            ("join \"t\" as Time into |by which;", "expected a kind"),
            ("join \"t\" as Time into Both |;", "expected by"),
            ("join \"t\" as Time into Both by |Which;", "expected a field"),
            ("join \"t\" as Time into Both by which else |\"t\";", "expected a kind"),
        ])

    def test_deletes(self):
        self.check_faults(read, [
            ("deletes |author takes;", "expected a kind"),
            ("deletes Book |author takes;", "expected ."),
            ("deletes Book.author |;", "expected a rule"),
            ("deletes Book.author |deletes;", "expected a rule"),
            ('deletes Book.author |"takes";', "expected a rule"),
            ("deletes Book.author takes |clears;", "expected ;"),
        ])

    def test_the_whole_text_is_read_first(self):
        self.check_faults(read, [
            ("rename Nothing to Tome; rename Book |;", "expected to"),
            ("rename Nothing to |;", "expected a kind"),
            ("rename Nothing to Tome; |$", "unexpected sign"),
            ("gone kind Nothing; change Book.price: int |2..1;", "bad bounds"),
        ])


if __name__ == "__main__":
    unittest.main()
