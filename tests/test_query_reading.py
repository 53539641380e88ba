"""Queries: their grammar, and how they are written again."""

import unittest

from helper import FaultCase, padded

from oneheap.queries.query import Query
from oneheap.queries.reading import read_query
from oneheap.queries.writing import write_query
from oneheap.schemas.reading import read_schema

SCHEMA = read_schema(
    'kind Book { title: text 40; price: int 0..999; state: one of "new", "old"; author: ref Author; '
    "shop: ref Shop or Author; also: list Book; all1: list Book or Shop; count1: int 0..1; } "
    "kind Author { name: text 20; price: text 3; born: int 0..9; best: ref Book; books: list Book; } "
    'kind Shop { name: one of "s"; price: int 0..9; born: int 0..1; best: ref Shop; books: list Shop; other: text 1; } '
)

# Each of these is written just as it stands here.
WRITTEN = [
    "from Book b give b",
    "from Book b give b.title",
    "from Book b give b.author.best.author.name",
    "from Book b where b.price = 5 give b",
    "from Book b where b.price != 5 give b",
    "from Book b where b.price < 5 give b",
    "from Book b where b.price <= 5 give b",
    "from Book b where b.price > 5 give b",
    "from Book b where b.price >= 5 give b",
    'from Book b where b.title starts "a\\"b\\\\" give b',
    'from Book b where b.title holds "" give b',
    "from Book b where b.price is null give b",
    "from Book b where b.price is not null give b",
    "from Book b where b.price in (1) give b",
    "from Book b where b.price in (1, 2, b.price + 3, -4) give b",
    "from Book b where b.price + 1 in (1) give b",
    "from Book b where b = b.author.best give b",
    "from Book b where b.author = b.shop give b",
    "from Book b where b.author = :a and b.title = :t or b.price = :p give b",
    "from Book b where not b.price = 1 give b",
    "from Book b where not not not b.price = 1 give b",
    "from Book b where not b.price = 1 and b.price = 2 give b",
    "from Book b where not (b.price = 1 and b.price = 2) give b",
    "from Book b where (b.price = 1 or b.price = 2) and b.price = 3 give b",
    "from Book b where b.price = 1 or b.price = 2 and b.price = 3 give b",
    "from Book b where b.price = 1 or (b.price = 2 or b.price = 3) give b",
    "from Book b where b.price = 1 and (b.price = 2 and b.price = 3) give b",
    "from Book b where b.price = 1 or b.price = 2 or b.price = 3 give b",
    "from Book b where some x in b.also (x.price = 1) give b",
    "from Book b where every x in b.author.books (x.price = 1 or x.price = 2) give b",
    "from Book b where not some x in b.also (every y in x.also (y.price = x.price)) give b",
    "from Book b where some x in b.also (x.price = 1) and some x in b.also (x.price = 2) give b",
    "from Book b give count(b.also)",
    "from Book b give sum(x in b.also: x.price * 2), least(x in b.also: x.title), greatest(x in b.also: x.price)",
    "from Book b give -b.price, --b.price, -(b.price + 1), -b.price * 2, -(b.price * 2), 2 * -b.price",
    "from Book b give b.price - -1, b.price - (1 - 2), b.price - 1 - 2, b.price + (1 + 2), 1 * (2 * 3), (1 + 2) * 3",
    "from Book b give 1 * 2 * 3, 1 + 2 * 3, 1 * 2 + 3, 2 * (3 + 4) * 5, 0, 1000000000000",
    'from Book b give "a", ""',
    "from Book b group all give count(), sum(b.price), least(b.title), greatest(b.price) + 1",
    "from Book b group by b.state give b.state, count()",
    "from Book b group by b.state, b.author, b, b.author.name give b.author.name, b, b.author",
    "from Book b order by b.price give b",
    "from Book b order by b.price down, b.title, -b.price down, b give b",
    "from Book b give b skip 3",
    "from Book b give b first 3",
    "from Book b give b skip :s first :f",
    "from Book b give b skip 0 first 1000000000000",
    "from Book b where b.price = 1 group by b.price order by count() down, b.price give b.price, count() skip 1 first 2",
    "from Book b where :p + :q = -:r and :s starts :t and 5 in (:u, :v) and :w in (:x, b) give b",
    "from Book b where :p = b.price give b",
    "from Book kind where kind.price = 1 give kind",
]


def read(text):
    return read_query(SCHEMA, text)


class WrittenTest(FaultCase):
    def test_each(self):
        for text in WRITTEN:
            with self.subTest(text=text):
                query = read(text)
                self.assertIsInstance(query, Query)
                self.assertEqual(query.text, text)
                self.assertEqual(write_query(query), text)
                self.assertEqual((query.kind, query.name), ("Book", "kind" if "kind" in text else "b"))

    def test_more_and_fewer_blanks(self):
        for text in WRITTEN:
            if '"' in text:
                continue
            spread = text
            for sign in (".", ",", "(", ")", ":", "-", "+", "*"):
                spread = spread.replace(sign, f"  {sign}  ")
            with self.subTest(text=spread):
                self.assertEqual(read("  " + spread + "  ").text, text)
            tight = text
            for sign in (",", "(", ")", "-", "+", "*", "=", "<", ">"):
                tight = tight.replace(f" {sign}", sign).replace(f"{sign} ", sign)
            with self.subTest(text=tight):
                self.assertEqual(read(tight.replace(":", " : ")).text, text)

    def test_needless_parentheses(self):
        rows = [
            ("(((b.price))) = (5)", "b.price = 5"),
            ("(b.price = 5)", "b.price = 5"),
            ("((b.price = 1) or (b.price = 2)) or (b.price = 3)", "b.price = 1 or b.price = 2 or b.price = 3"),
            ("(b.price = 1 and b.price = 2) and b.price = 3", "b.price = 1 and b.price = 2 and b.price = 3"),
            ("(b.price = 1 and b.price = 2) or b.price = 3", "b.price = 1 and b.price = 2 or b.price = 3"),
            ("(b.price = 1 or b.price = 2) and b.price = 3", "(b.price = 1 or b.price = 2) and b.price = 3"),
            ("not (b.price = 1)", "not b.price = 1"),
            ("not (not (b.price = 1))", "not not b.price = 1"),
            ("not (not not (b.price = 1))", "not not not b.price = 1"),
            ("(not b.price = 1) and b.price = 2", "not b.price = 1 and b.price = 2"),
            ("not (b.price is null)", "not b.price is null"),
            ("(b.price + 1) + 2 = 3", "b.price + 1 + 2 = 3"),
            ("b.price + (1 + 2) = 3", "b.price + (1 + 2) = 3"),
            ("(b.price * 1) + (2 * 3) = 3", "b.price * 1 + 2 * 3 = 3"),
            ("(b.price + 1) * 2 = 3", "(b.price + 1) * 2 = 3"),
            ("(b.price * 1) * 2 = 3", "b.price * 1 * 2 = 3"),
            ("-(-(b.price)) = 3", "--b.price = 3"),
            ("(-b.price) * 2 = 3", "-b.price * 2 = 3"),
            ("-(b.price * 2) = 3", "-(b.price * 2) = 3"),
            ("(b.price) in ((1), (:p + 2))", "b.price in (1, :p + 2)"),
            ("(:p) = b.price", ":p = b.price"),
            ("some x in b.also ((x.price = 1))", "some x in b.also (x.price = 1)"),
            ("(some x in b.also (x.price = 1)) or (b.price is null)",
             "some x in b.also (x.price = 1) or b.price is null"),
            ("sum(x in b.also: (x.price + 1)) = 1", "sum(x in b.also: x.price + 1) = 1"),
            ("(count(b.also)) * (b.price) = 1", "count(b.also) * b.price = 1"),
        ]
        for text, expected in rows:
            with self.subTest(text=text):
                self.assertEqual(read(f"from Book b where {text} give b").text, f"from Book b where {expected} give b")

    def test_written_is_read_with_the_same_text(self):
        texts = WRITTEN + ["from Book b where((b.price=1)or(b.price=2))and not(not b.price=3)give-(-b.price),(b)"]
        for text in texts:
            written = read(text).text
            self.assertEqual(read(written).text, written)

    def test_names_that_are_reserved_elsewhere(self):
        for name in ("kind", "text", "takes", "of", "to", "new", "between"):
            self.assertEqual(read(f"from Book {name} give {name}").name, name)

    def test_long_chains(self):
        text = "from Book b give " + "-" * 300 + "b.price"
        self.assertEqual(read(text).text, text)
        text = "from Book b give " + "+".join(["1"] * 180)
        self.assertEqual(read(text).text, "from Book b give " + " + ".join(["1"] * 180))
        text = "from Book b where " + "not " * 80 + "b.price=1 give b"
        self.assertEqual(read(text).text, text.replace("=", " = "))

    def test_length(self):
        self.assertEqual(read(padded("from Book b give b", 400)).text, "from Book b give b")
        self.assertEqual(self.told_fault(lambda: read(padded("from Book b give b", 401))), (0, "text too long"))


class GrammarFaultTest(FaultCase):
    def test_from(self):
        self.check_faults(read, [
            ("|", "expected from"),
            ("|From Book b give b", "expected from"),
            ("from |book b give b", "expected a kind"),
            ("from |give b", "expected a kind"),
            ("from |Nothing b give b", "no such kind"),
            ("from |Nothing 5", "no such kind"),
            ("from Book |B give b", "expected a name"),
            ("from Book |give b", "expected a name"),
            ("from Book |in give b", "expected a name"),
            ("from Book |5", "expected a name"),
            ('from Book |"b" give b', "expected a name"),
            ("from Book b |", "expected give"),
            ("from Book b |b", "expected give"),
            ('from Book b |"where" b', "expected give"),
            ("from Book b where b.price = 1 |where b.price = 1 give b", "expected give"),
        ])

    def test_every_reserved_word(self):
        words = ("from where group all by order down give skip first or and not some every in starts holds is null count "
                 "sum least greatest").split()
        for word in words:
            self.check_fault(read, f"from Book |{word} give b", "expected a name")
            self.check_fault(read, f"from Book b give b.|{word}", "expected a field")

    def test_terms(self):
        self.check_faults(read, [
            ("from Book b where |give b", "expected a term"),
            ("from Book b where |", "expected a term"),
            ("from Book b where |= 5 give b", "expected a term"),
            ("from Book b where |Book = 5 give b", "expected a term"),
            ("from Book b where b.price = |not 5 give b", "expected a term"),
            ("from Book b where b.price = |) give b", "expected a term"),
            ("from Book b where b.price + |or give b", "expected a term"),
            ("from Book b where b.price = 1 or |give b", "expected a term"),
            ("from Book b where b.price = 1 and |give b", "expected a term"),
            ("from Book b where not |give b", "expected a term"),
            ("from Book b where b.price * - |* 2 = 1 give b", "expected a term"),
            ("from Book b where (|) give b", "expected a term"),
            ("from Book b where b.price in (|) give b", "expected a term"),
            ("from Book b where b.price in (1, |) give b", "expected a term"),
            ("from Book b give |", "expected a term"),
            ("from Book b give b, |", "expected a term"),
            ("from Book b give |is", "expected a term"),
            ("from Book b order by |down give b", "expected a term"),
            ("from Book b where b.price = 1 |= 2 give b", "expected give"),
            ("from Book b where b.price = 1 |is null give b", "expected give"),
            ("from Book b where b.price is null |= 1 give b", "expected give"),
        ])

    def test_certain_words_and_signs(self):
        self.check_faults(read, [
            ("from Book b where (b.price = 1 |give b", "expected )"),
            ("from Book b where b.price is |5 give b", "expected null"),
            ("from Book b where b.price is not |not null give b", "expected null"),
            ("from Book b where b.price in |1 give b", "expected ("),
            ("from Book b where b.price in (1 |2) give b", "expected )"),
            ("from Book b where some |Book in b.also (x.price = 1) give b", "expected a name"),
            ("from Book b where some |(x) give b", "expected a name"),
            ("from Book b where some x |= b.also (x.price = 1) give b", "expected in"),
            ("from Book b where some x in |5 (x.price = 1) give b", "expected a name"),
            ("from Book b where some x in |(b.also) (x.price = 1) give b", "expected a name"),
            ("from Book b where some x in b.also |x.price = 1 give b", "expected ("),
            ("from Book b where some x in b.also (x.price = 1 |give b", "expected )"),
            ("from Book b where every x in b.also (x.price = 1|, 2) give b", "expected )"),
            ("from Book b where :|5 = b.price give b", "expected a name"),
            ("from Book b where :|Book = b.price give b", "expected a name"),
            ("from Book b where :|count = b.price give b", "expected a name"),
            ("from Book b give count |b.also", "expected ("),
            ("from Book b give count(|5)", "expected a name"),
            ("from Book b give count(|Book)", "expected a name"),
            ("from Book b give count(|", "expected a name"),
            ("from Book b give count(b.also|, b)", "expected )"),
            ("from Book b give sum |b.price", "expected ("),
            ("from Book b give sum(|)", "expected a name"),
            ("from Book b give least(|5)", "expected a name"),
            ("from Book b give greatest(|-b.price)", "expected a name"),
            ("from Book b give sum(x in |(b.also): x.price)", "expected a name"),
            ("from Book b give sum(x in b.also |x.price)", "expected :"),
            ("from Book b give sum(x in b.also: |)", "expected a term"),
            ("from Book b give sum(x in b.also: x.price|", "expected )"),
            ("from Book b group all give sum(b.price|, 5)", "expected )"),
            ("from Book b group |b.price give b", "expected by"),
            ("from Book b group |give b", "expected by"),
            ("from Book b group |", "expected by"),
            ("from Book b group by |5 give b", "expected a name"),
            ("from Book b group by |(b.price) give b", "expected a name"),
            ("from Book b group by b.price, |give b", "expected a name"),
            ("from Book b group all |by b.price give b", "expected give"),
            ("from Book b group by b.price |down give b", "expected give"),
            ("from Book b order |b.price give b", "expected by"),
            ("from Book b order by b.price |group all give b", "expected give"),
            ("from Book b order by b.price down |down give b", "expected give"),
            ("from Book b give b.|5", "expected a field"),
            ("from Book b give b.|Price", "expected a field"),
            ("from Book b give b.|", "expected a field"),
            ("from Book b give b.price.|5", "expected a field"),
        ])

    def test_ends(self):
        self.check_faults(read, [
            ("from Book b give b |b", "expected the end"),
            ("from Book b give b |down", "expected the end"),
            ("from Book b give b |)", "expected the end"),
            ("from Book b give b first 3 |skip 2", "expected the end"),
            ("from Book b give b skip 3 |skip 2", "expected the end"),
            ("from Book b give b skip 3|, 4", "expected the end"),
            ("from Book b give b skip |", "expected a count"),
            ("from Book b give b skip |-3", "expected a count"),
            ("from Book b give b skip |(3)", "expected a count"),
            ("from Book b give b first |b", "expected a count"),
            ('from Book b give b first |"3"', "expected a count"),
            ("from Book b give b first |first 3", "expected a count"),
            ("from Book b give b first :|3", "expected a name"),
            ("from Book b give b skip |1000000000001", "number too large"),
        ])

    def test_numbers(self):
        self.check_faults(read, [
            ("from Book b give |1000000000001", "number too large"),
            ("from Book b give -|1000000000001", "number too large"),
            ("from Book b where b.title + |1000000000001 = 1 give b", "number too large"),
            ("from Book b give |1234567890123456789", "number too long"),
            ("from Book b give |00", "needless zero"),
        ])

    def test_tokens(self):
        self.check_faults(read, [
            ("from Nothing b give |;", "unexpected sign"),
            ("from Nothing b give |!", "unexpected sign"),
            ("from Nothing b give |{", "unexpected sign"),
            ('from Book b where b.title = |"a give b', "text is not closed"),
            ("from Book |abcdefghijklm give b", "word too long"),
        ])


if __name__ == "__main__":
    unittest.main()
