"""Deeds of several sessions of several versions, drawn, and held against a plain model; [92], [109], [119] to [133]."""

import random
import unittest

from plain import Drawer, PlainMapper
from oneheap.errors import Fault, Told
from oneheap.layouts.layout import Layout
from oneheap.mapper.inspector import step_text, table_rows, transaction, version_rows, why
from oneheap.mapper.mapper import Mapper
from oneheap.store.rows import Row
from oneheap.store.transactions import are_in_order, run_statements

SCHEMA = (
    'kind Book { title: text 9; n: int 0..9; sort: one of "p", "q"; author: ref Author; also: list Book or Author; key n; '
    'key title, author; } '
    'kind Author { name: text 9; boss: ref Author takes; firm: ref Firm refuses; fans: list Author; age: int -3..9; key name; } '
    "kind Firm { f: int 0..9; m: int 0..9; } "
    'kind Gate { c: one of "x", "y"; w: text 4 without ":"; v: text 9; g: ref Book; key v; }'
)
STEPS = (
    'split Book by sort into "p" as Poem, "q" as Story;',
    'split Book by sort into "q" as Story, "p" as Poem else Poem; rename Author.name to called;',
    'join "b" as Book, "f" as Firm into Item by what;',
    'join "f" as Firm, "a" as Author into Item by what else Firm;',
    'join "p" as Poem, "s" as Story into Book by sort;',
    'join "s" as Story, "p" as Poem into Book by sort else Poem;',
    'split Item by what into "b" as Book, "f" as Firm;',
    'split Item by what into "f" as Firm, "a" as Author else Author;',
    'split Gate by c into "y" as Y, "x" as X;',
    'join "u" as Y, "v" as X into Gate by c;',
    "gone kind X;",
    "rename Author.name to called; new Author.x: int 0..9 = 3; gone Firm.m = 2;",
    "replace Firm (f, m) by (t: int 0..99) as (10 * f + m); new kind Fresh { f: ref Firm takes; l: list Fresh; };",
    "replace Firm (f, m) by (t: int 0..18, u: int 0..99) as (f + m, f) back (1, 2);",
    "replace Firm (f, m) by (t: int 0..18) as (f + m); rename Gate.c to d;",
    "change Book.n: int 0..3 else 1 back 7; gone Book.also; deletes Author.firm clears;",
    'change Book.n: text 3 else "no" back 5; change Author.age: int 0..20 else 5 back -2;',
    "gone kind Firm; change Author.boss: ref Author refuses; gone Author.firm;",
    'replace Book (title) by (i: text 9 without ":", j: text 9) split ":" back ("z");',
    'replace Gate (w, v) by (k: text 20) join ":" back ("a", "b");',
    'replace Gate (c) by (d: int 0..3) table ("x") -> (1), ("y") -> (1) back ("y");',
    "rename Author to Writer; rename Book.n to number; gone key Book (number);",
    "new key Firm (f);",
    "rename Firm to House; new key House (m, f);",
    "gone key Author (name); new not null Author.firm;",
    "gone kind Fresh;",
    "rename Poem.n to m; gone kind Story;",
    "gone Item.f = 5; rename Item.what to sort;",
    "gone key Gate (v); gone key Book (n);",
    "new kind Fresh { f: ref Book or Author refuses; l: list Fresh; }; new not null Fresh.f;",
    "",
)


def all_rows(mapper):
    """Return the tables of now and all rows in them, as the inspector tells them."""
    tables = Layout(mapper.ground.line).tables
    return tables, [Row(table.name, number, cells) for table in tables for number, cells in table_rows(mapper, table.name)]


class Pair:
    """A mapper and its plain model, to which the same is done."""

    def __init__(self, case, seed):
        self.case = case
        self.rnd = random.Random(seed)
        self.drawer = Drawer(self.rnd)
        self.mapper = Mapper(SCHEMA)
        self.model = PlainMapper(SCHEMA)
        self.sessions = {}
        self.used = 0

    def equal(self, found, wanted, what):
        self.case.assertEqual(found, wanted, what)

    def open_session(self):
        if len(self.sessions) < 4 and self.used < 99:
            self.used += 1
            version = self.rnd.choice(self.model.line.version_numbers())
            self.sessions[self.used] = (self.mapper.start_session(version, self.used), self.model.start_session(version, self.used))

    def close_session(self, number):
        session, plain = self.sessions.pop(number)
        session.close()
        self.model.sessions.remove(plain)

    def answer(self, session, deed):
        """Do a deed by the method of a session; return its answer, as a script would keep it."""
        try:
            if deed[0] == "query":
                return ("value", session.ask(deed[1], deed[2]))
            if deed[0] == "make":
                self.equal(session.make(deed[2], deed[3]), deed[1], deed)
                return ("value", None)
            return ("value", getattr(session, deed[0])(*deed[1:]))
        except Told as error:
            return ("error", error.label)

    def do(self, number):
        session, plain = self.sessions[number]
        if len(self.model.heaps) - plain.moment > 8 or len(plain.script) == 60:
            session.drop()
            plain.drop()
        self.read_otherwise(session, plain)
        deed = self.drawer.deed(plain.view, plain)
        self.equal(self.answer(session, deed), plain.do(deed), deed)

    def read_otherwise(self, session, plain):
        """Read ahead or forget, of which no answer depends."""
        if self.rnd.random() < 0.1:
            session.forget()
        if self.rnd.random() < 0.2:
            fields = [field.name for kind in plain.view.schema.kinds for field in kind.fields] + ["none"]
            paths = [[self.rnd.choice(fields) for _ in range(self.rnd.randint(0, 3))] for _ in range(self.rnd.randint(0, 3))]
            session.ahead([self.drawer.any_number(plain.view) for _ in range(self.rnd.randint(0, 15))], paths)

    def finish(self, number):
        session, plain = self.sessions[number]
        word = self.rnd.choice(["flush", "flush", "flush", "refresh", "rebase", "drop"])
        if word == "drop":
            session.drop()
            plain.drop()
            return
        before = all_rows(self.mapper)
        told = transaction(self.mapper)
        heaps = len(self.model.heaps)
        wanted = getattr(plain, word)()
        self.equal(getattr(session, word)(), wanted, (word, plain.version))
        self.equal(why(self.mapper, number), plain.refused, "why")
        if wanted[0] == "otherwise" and self.rnd.random() < 0.7:
            session.drop()
            plain.drop()
        self.check_written(before, told, ("flush", number) if len(self.model.heaps) > heaps else None)
        if word == "flush":
            self.check_heap()

    def check_written(self, before, told, wanted):
        """Check the last transaction: none was written, or one that leads from the rows of before to those of now."""
        if wanted is None:
            self.equal(transaction(self.mapper), told, "no transaction")
            return
        word, number, statements = transaction(self.mapper)
        self.equal((word, number), wanted, statements)
        self.case.assertTrue(statements)
        self.equal(run_statements(before[0], before[1], statements), all_rows(self.mapper)[1], statements)

    def check_heap(self):
        """Check that the rows of now are in order and show the pictures of the model."""
        tables, rows = all_rows(self.mapper)
        self.case.assertTrue(are_in_order(tables, rows))
        heap, places = Layout(self.model.line).read(rows)
        self.equal(heap, self.model.heaps[-1], "the heap of now")
        found = version_rows(self.mapper)
        for number, _, there, placed in found:
            self.equal((there, placed), (len(heap.picture_of(number)), list(places.values()).count(number)), number)

    def add(self):
        if len(self.model.line.versions) == 4 or self.model.given >= 40:
            return
        text = self.rnd.choice(STEPS)
        try:
            wanted = self.model.add_version(text)
        except Fault as fault:
            with self.case.assertRaises(Fault) as caught:
                self.mapper.add_version(text)
            self.equal((caught.exception.place, caught.exception.reason), (fault.place, fault.reason), text)
            return
        self.equal(self.mapper.add_version(text), wanted, text)
        self.case.assertIsNotNone(step_text(self.mapper, wanted))
        self.check_heap()

    def move(self):
        before, told = all_rows(self.mapper), transaction(self.mapper)
        self.mapper.move(self.rnd.choice(self.model.line.version_numbers()), self.rnd.randint(1, 20))
        changed = all_rows(self.mapper)[1] != before[1]
        self.check_written(before, told, ("move", None) if changed else None)
        self.check_heap()

    def end(self):
        numbers = self.model.line.version_numbers()
        if len(numbers) == 1:
            return
        version = self.rnd.choice([numbers[0], numbers[-1]])
        wanted = self.model.end(version)
        self.equal(self.mapper.end(version), wanted, ("end", version))
        if wanted is None:
            for number in [one for one, (_, plain) in self.sessions.items() if plain.version == version]:
                self.close_session(number)
        self.check_heap()

    def run(self, rounds):
        for _ in range(rounds):
            chance = self.rnd.random()
            self.open_session()
            number = self.rnd.choice(sorted(self.sessions)) if self.sessions else None
            if chance < 0.80 and number is not None:
                for _ in range(self.rnd.randint(1, 4)):
                    self.do(number)
            elif chance < 0.92 and number is not None:
                self.finish(number)
            elif chance < 0.93 and number is not None:
                self.close_session(number)
            elif chance < 0.96:
                self.add()
            elif chance < 0.985:
                self.move()
            else:
                self.end()


class DrawnTest(unittest.TestCase):
    def test_drawn_deeds(self):
        for seed in range(25):
            Pair(self, seed).run(150)


if __name__ == "__main__":
    unittest.main()
