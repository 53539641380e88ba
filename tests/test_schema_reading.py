import unittest

from helper import FaultCase, padded

from oneheap.schemas.reading import read_schema, write_schema
from oneheap.schemas.schema import Schema
from oneheap.schemas.sorts import ChoiceSort, IntSort, ListSort, RefSort, TextSort

WHOLE = (
    'kind Book { title: text 40 not null; isbn: text 13 without "-"; state: one of "new", "old"; price: int -5..100000; '
    "author: ref Author or Book takes not null; also: list Author or Book; key title, price; key isbn; } "
    "kind Author { first: ref Book; second: ref Book refuses; third: ref Book; books: list Book; key third; key first; "
    "key second; } kind Empty { }"
)


class ReadTest(FaultCase):
    def test_every_shape(self):
        schema = read_schema(WHOLE)
        self.assertIsInstance(schema, Schema)
        kind = schema.kind_of("Book")
        self.assertEqual([(field.name, field.needed) for field in kind.fields], [
            ("title", True), ("isbn", False), ("state", False), ("price", False), ("author", True), ("also", False)])
        self.assertEqual([field.shape for field in kind.fields], [
            TextSort(40), TextSort(13, "-"), ChoiceSort(["new", "old"]), IntSort(-5, 100000),
            RefSort(["Author", "Book"], "takes"), ListSort(["Author", "Book"])])
        self.assertEqual(kind.key_rows, [["title", "price"], ["isbn"]])
        author = schema.kind_of("Author")
        self.assertEqual([field.shape for field in author.fields], [
            RefSort(["Book"], "clears"), RefSort(["Book"], "refuses"), RefSort(["Book"], "clears"), ListSort(["Book"])])
        self.assertEqual(author.key_rows, [["third"], ["first"], ["second"]])
        self.assertEqual((schema.kind_of("Empty").fields, schema.kind_of("Empty").key_rows), ([], []))

    def test_written(self):
        self.assertEqual(write_schema(read_schema(WHOLE)), WHOLE)

    def test_keys_stand_behind_the_fields(self):
        text = "kind A { key b; a: int 0..1; key a; b: int 0..1; }"
        self.assertEqual(write_schema(read_schema(text)), "kind A { a: int 0..1; b: int 0..1; key b; key a; }")

    def test_a_written_rule(self):
        text = "kind A { a: ref A clears; }"
        self.assertEqual(write_schema(read_schema(text)), "kind A { a: ref A; }")

    def test_more_and_fewer_blanks(self):
        text = '  kind  A{a :int - 3 .. 5 not  null;b:text 3 without"x";c:one of"a","b";d:ref A or  B takes;key a , b;}kind B{}'
        plain = ('kind A { a: int -3..5 not null; b: text 3 without "x"; c: one of "a", "b"; d: ref A or B takes; '
                 "key a, b; } kind B { }")
        self.assertEqual(write_schema(read_schema(text)), plain)
        self.assertEqual(write_schema(read_schema(plain)), plain)

    def test_integers(self):
        text = "kind A { a: int -0..0; b: int -1000000000..1000000000; c: int - 7..-7; }"
        self.assertEqual(write_schema(read_schema(text)),
                         "kind A { a: int 0..0; b: int -1000000000..1000000000; c: int -7..-7; }")

    def test_length(self):
        self.assertEqual(write_schema(read_schema(padded(WHOLE, 1000))), WHOLE)
        self.assertEqual(self.told_fault(lambda: read_schema(padded(WHOLE, 1001))), (0, "text too long"))
        self.assertEqual(self.told_fault(lambda: read_schema(padded("$", 1001))), (0, "text too long"))

    def test_nothing_is_shared_between_two_readings(self):
        one = read_schema(WHOLE)
        one.kinds[0].fields[2].shape.choices.append("x")
        one.kinds[0].key_rows[0].append("x")
        self.assertEqual(write_schema(read_schema(WHOLE)), WHOLE)


class GrammarFaultTest(FaultCase):
    def test_kinds(self):
        self.check_faults(read_schema, [
            ("|", "expected kind"),
            ("  |", "expected kind"),
            ("|Kind A { }", "expected kind"),
            ('|"kind" A { }', "expected kind"),
            ("kind |a { }", "expected a kind"),
            ("kind |kind { }", "expected a kind"),
            ("kind |5 { }", "expected a kind"),
            ('kind |"A" { }', "expected a kind"),
            ("kind |", "expected a kind"),
            ("kind A |", "expected {"),
            ("kind A |A", "expected {"),
            ("kind A { |", "expected a field"),
            ("kind A { |A: int 0..1; }", "expected a field"),
            ("kind A { |not: int 0..1; }", "expected a field"),
            ("kind A { |deletes: int 0..1; }", "expected a field"),
            ("kind A { |; }", "expected a field"),
            ('kind A { |"a": int 0..1; }', "expected a field"),
            ("kind A { } |}", "expected kind"),
            ("kind A { } kind B { } |key", "expected kind"),
        ])

    def test_every_reserved_word(self):
        words = ("kind not null int text without one of ref or list clears refuses takes rename new gone change else "
                 "back replace by as table split join into needs drops deletes").split()
        for word in words:
            self.check_fault(read_schema, "kind A { |" + word + ": int 0..1; }", "expected a field")
            self.check_fault(read_schema, "kind A { key |" + word + "; }", "expected a field")
        self.check_fault(read_schema, "kind A { key |key; }", "expected a field")

    def test_words_that_are_not_reserved(self):
        for word in ("to", "from", "where", "count", "down", "keys", "nulls", "all"):
            self.assertEqual(read_schema("kind A { " + word + ": int 0..1; }").kinds[0].names(), [word])
        self.assertEqual(read_schema("kind Kind { } kind Not { } kind Key { }").names(), ["Kind", "Not", "Key"])

    def test_fields(self):
        self.check_faults(read_schema, [
            ("kind A { a |int 0..1; }", "expected :"),
            ("kind A { a: |; }", "expected a sort"),
            ("kind A { a: |\"int\" 0..1; }", "expected a sort"),
            ("kind A { a: |integer 0..1; }", "expected a sort"),
            ("kind A { a: |A; }", "expected a sort"),
            ("kind A { a: |of \"a\"; }", "expected a sort"),
            ("kind A { a: |5; }", "expected a sort"),
            ("kind A { a: |", "expected a sort"),
            ("kind A { a: int 0..1 |}", "expected ;"),
            ("kind A { a: int 0..1 |null; }", "expected ;"),
            ("kind A { a: int 0..1 not |; }", "expected null"),
            ("kind A { a: int 0..1 not null |not; }", "expected ;"),
            ("kind A { a: int 0..1 not null |} ", "expected ;"),
        ])

    def test_shapes(self):
        self.check_faults(read_schema, [
            ("kind A { a: int |..1; }", "expected a number"),
            ("kind A { a: int -|..1; }", "expected a number"),
            ("kind A { a: int -|-1..1; }", "expected a number"),
            ("kind A { a: int 0|; }", "expected .."),
            ("kind A { a: int 0 |- 5; }", "expected .."),
            ("kind A { a: int 0..|; }", "expected a number"),
            ("kind A { a: int 0..-|a; }", "expected a number"),
            ("kind A { a: text |; }", "expected a number"),
            ("kind A { a: text |-3; }", "expected a number"),
            ("kind A { a: text 3 without |; }", "expected a text"),
            ("kind A { a: text 3 without |b; }", "expected a text"),
            ('kind A { a: text 3 |"b"; }', "expected ;"),
            ("kind A { a: one |\"b\"; }", "expected of"),
            ("kind A { a: one of |; }", "expected a text"),
            ("kind A { a: one of \"b\", |; }", "expected a text"),
            ("kind A { a: one of \"b\" |\"c\"; }", "expected ;"),
            ("kind A { a: ref |; }", "expected a kind"),
            ("kind A { a: ref |a; }", "expected a kind"),
            ("kind A { a: ref A or |; }", "expected a kind"),
            ("kind A { a: ref A |B; }", "expected ;"),
            ("kind A { a: ref A takes |takes; }", "expected ;"),
            ("kind A { a: ref A takes |or B; }", "expected ;"),
            ("kind A { a: list |takes; }", "expected a kind"),
            ("kind A { a: list A |takes; }", "expected ;"),
        ])

    def test_keys(self):
        self.check_faults(read_schema, [
            ("kind A { key |; }", "expected a field"),
            ("kind A { key |A; }", "expected a field"),
            ("kind A { a: int 0..1; key a, |; }", "expected a field"),
            ("kind A { a: int 0..1; key a |a; }", "expected ;"),
            ("kind A { a: int 0..1; key a |", "expected ;"),
        ])

    def test_tokens_come_first(self):
        self.check_faults(read_schema, [
            ("kind a { } |=", "unexpected sign"),
            ("kind A { a: text 0; b: int 0|.5; }", "unexpected sign"),
            ("|kindkindkindk", "word too long"),
            ("kind A { a: int |00..5; }", "needless zero"),
        ])


class SortFaultTest(FaultCase):
    def test_bounds(self):
        self.check_faults(read_schema, [
            ("kind A { a: int |5..4; }", "bad bounds"),
            ("kind A { a: int |-4..-5; }", "bad bounds"),
            ("kind A { a: int |- 1000000001..0; }", "bad bounds"),
            ("kind A { a: int |0..1000000001; }", "bad bounds"),
            ("kind A { a: int |1000000001..1000000002; }", "bad bounds"),
            ("kind A { a: int |-1000000002..-1000000001; }", "bad bounds"),
            ("kind A { a: int 5..|a; }", "expected a number"),
            ("kind A { a: int |5..4 not not; }", "bad bounds"),
        ])
        self.assertEqual(read_schema("kind A { a: int 5..5; }").kinds[0].fields[0].shape, IntSort(5, 5))

    def test_lengths(self):
        self.check_faults(read_schema, [
            ("kind A { a: text |0; }", "bad length"),
            ("kind A { a: text |41; }", "bad length"),
            ('kind A { a: text |41 without "ab"; }', "bad length"),
            ("kind A { a: text |0 oops", "bad length"),
            ('kind A { a: one of "x", |"' + "a" * 41 + '"; }', "bad length"),
        ])
        kind = read_schema('kind A { a: text 1; b: text 40; c: one of "", "' + "a" * 40 + '"; }').kinds[0]
        self.assertEqual([field.shape for field in kind.fields],
                         [TextSort(1), TextSort(40), ChoiceSort(["", "a" * 40])])

    def test_escaped_characters_count_once(self):
        text = 'kind A { a: one of "' + "\\\\" * 40 + '"; }'
        self.assertEqual(read_schema(text).kinds[0].fields[0].shape, ChoiceSort(["\\" * 40]))
        self.assertEqual(read_schema('kind A { a: text 2 without "\\""; }').kinds[0].fields[0].shape, TextSort(2, '"'))

    def test_signs(self):
        self.check_faults(read_schema, [
            ('kind A { a: text 3 without |""; }', "bad sign"),
            ('kind A { a: text 3 without |"ab"; }', "bad sign"),
        ])

    def test_choices(self):
        eight = ", ".join('"' + letter + '"' for letter in "abcdefgh")
        self.assertEqual(len(read_schema("kind A { a: one of " + eight + "; }").kinds[0].fields[0].shape.choices), 8)
        self.check_faults(read_schema, [
            ('kind A { a: one of "a", "b", |"a"; }', "choice twice"),
            ("kind A { a: one of " + eight + ', |"i"; }', "too many choices"),
            ("kind A { a: one of " + eight + ', |"a"; }', "choice twice"),
            ("kind A { a: one of " + eight + ', |"' + "a" * 41 + '"; }', "bad length"),
        ])
        self.assertEqual(len(read_schema('kind A { a: one of "a"; b: one of "a"; }').kinds[0].fields), 2)

    def test_kinds_of_shapes(self):
        self.check_faults(read_schema, [
            ("kind A { a: ref A or B or |A; }", "kind twice"),
            ("kind A { a: list B or |B; }", "kind twice"),
            ("kind A { a: list B or |B or", "kind twice"),
        ])

    def test_lists_that_are_needed(self):
        self.check_faults(read_schema, [
            ("kind A { a: list A |not null; }", "list not null"),
            ("kind A { a: list A |not null oops", "list not null"),
            ("kind A { a: list A not |oops; }", "expected null"),
        ])

    def test_grammar_and_sorts_from_left_to_right(self):
        self.check_faults(read_schema, [
            ("kind A { a: text |0; } oops", "bad length"),
            ("kind A { a: text 1 |oops; b: text 0; }", "expected ;"),
            ("kind A { a: ref Z; a: text |0; }", "bad length"),
        ])


class WholeFaultTest(FaultCase):
    def fields(self, many, start=0):
        return " ".join(f"f{at}: int 0..1;" for at in range(start, start + many))

    def test_kinds(self):
        eight = " ".join(f"kind K{at} {{ }}" for at in range(8))
        self.assertEqual(len(read_schema(eight).kinds), 8)
        self.check_faults(read_schema, [
            ("kind A { } kind B { } kind |A { }", "kind twice"),
            (eight + " kind |K8 { }", "too many kinds"),
            (eight + " kind |K0 { }", "kind twice"),
            (eight + " kind |K8 { } kind K8 { }", "too many kinds"),
            ("kind A { a: ref |Z; } kind A { }", "no such kind"),
            ("kind A { } kind |A { a: ref Z; }", "kind twice"),
        ])

    def test_fields(self):
        self.assertEqual(len(read_schema("kind A { " + self.fields(8) + " }").kinds[0].fields), 8)
        self.check_faults(read_schema, [
            ("kind A { a: int 0..1; b: int 0..1; |a: text 3; }", "field twice"),
            ("kind A { " + self.fields(8) + " |f8: int 0..1; }", "too many fields"),
            ("kind A { " + self.fields(8) + " |f0: int 0..1; }", "field twice"),
            ("kind A { " + self.fields(8) + " |f8: ref Z; }", "too many fields"),
            ("kind A { a: int 0..1; |a: ref Z; }", "field twice"),
            ("kind A { a: ref |Z; a: int 0..1; }", "no such kind"),
            ("kind A { a: ref B or |Y or Z; } kind B { }", "no such kind"),
            ("kind A { a: list A or |Z; }", "no such kind"),
        ])
        self.assertEqual(read_schema("kind A { a: ref B; } kind B { }").names(), ["A", "B"])

    def test_fields_come_before_keys(self):
        self.check_faults(read_schema, [
            ("kind A { key z; a: ref |Z; }", "no such kind"),
            ("kind A { key z; a: int 0..1; |a: int 0..1; }", "field twice"),
            ("kind A { a: int 0..1; key |z; } kind B { b: ref Z; }", "no such field"),
            ("kind A { a: int 0..1; key |z; } kind A { }", "no such field"),
        ])

    def test_keys(self):
        fields = self.fields(5) + " l: list A; "
        self.assertEqual(len(read_schema("kind A { " + fields + "key f0; key f1; key f2, f3; }").kinds[0].key_rows), 3)
        self.check_faults(read_schema, [
            ("kind A { " + fields + "key f0; key f1; key f2; key |f3, f4; }", "too many keys"),
            ("kind A { " + fields + "key f0; key f1; key f2; key |z; }", "too many keys"),
            ("kind A { " + fields + "key f0, |z; }", "no such field"),
            ("kind A { " + fields + "key |z, z; }", "no such field"),
            ("kind A { " + fields + "key f0, |l; }", "list in a key"),
            ("kind A { " + fields + "key f0, |l, l; }", "list in a key"),
            ("kind A { " + fields + "key f0, f1, |f0; }", "field twice"),
            ("kind A { " + fields + "key f0; key f1, |f0; }", "field in two keys"),
            ("kind A { " + fields + "key f0; key |f0, f1; }", "field in two keys"),
        ])

    def test_the_names_of_a_key_are_looked_at_twice(self):
        fields = self.fields(3)
        self.check_faults(read_schema, [
            ("kind A { " + fields + " key f0; key f0, |z; }", "no such field"),
            ("kind A { " + fields + " key f0; key f0, |f0; }", "field twice"),
            ("kind A { " + fields + " key f0; key |f0; key z; }", "field in two keys"),
        ])

    def test_the_whole_text_is_read_first(self):
        self.check_faults(read_schema, [
            ("kind A { a: ref Z; } kind B { |", "expected a field"),
            ("kind A { } kind A { } |oops", "expected kind"),
            ("kind A { a: ref Z; b: int |2..1; }", "bad bounds"),
        ])


if __name__ == "__main__":
    unittest.main()
