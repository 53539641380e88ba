import unittest

from oneheap.schemas.reading import read_schema
from oneheap.schemas.schema import Field, Kind, Schema, constraints_of
from oneheap.schemas.sorts import IntSort, RefSort, TextSort


def book():
    fields = [Field("title", TextSort(40), True), Field("author", RefSort(["Author"], "takes"))]
    return Kind("Book", fields, [["title"]])


class SchemaTest(unittest.TestCase):
    def test_fields(self):
        field = Field("title", TextSort(40))
        self.assertEqual((field.name, field.shape, field.needed), ("title", TextSort(40), False))
        self.assertIs(Field("title", TextSort(40), True).needed, True)
        self.assertEqual(field.written(), "title: text 40;")
        self.assertEqual(Field("a", IntSort(0, 1), True).written(), "a: int 0..1 not null;")

    def test_kinds(self):
        kind = book()
        self.assertEqual((kind.name, kind.key_rows), ("Book", [["title"]]))
        self.assertEqual(kind.names(), ["title", "author"])
        self.assertEqual(kind.field_of("author").shape, RefSort(["Author"], "takes"))
        self.assertIsNone(kind.field_of("Author"))
        text = "kind Book { title: text 40 not null; author: ref Author takes; key title; }"
        self.assertEqual(kind.written(), text)
        self.assertEqual(Kind("A", [], []).written(), "kind A { }")

    def test_schemas(self):
        schema = Schema([book(), Kind("Author", [], [])])
        self.assertEqual(schema.names(), ["Book", "Author"])
        self.assertEqual([kind.name for kind in schema.kinds], ["Book", "Author"])
        self.assertEqual(schema.kind_of("Author").names(), [])
        self.assertIsNone(schema.kind_of("author"))
        self.assertEqual(schema.field_of("Book", "title").name, "title")
        self.assertIsNone(schema.field_of("Book", "name"))
        self.assertIsNone(schema.field_of("Nothing", "title"))
        self.assertIsNone(schema.field_of("Author", "title"))
        self.assertEqual(schema.written(), book().written() + " kind Author { }")

    def test_nothing_is_shared(self):
        fields = [Field("a", IntSort(0, 1))]
        rows = [["a"]]
        kind = Kind("A", fields, rows)
        kinds = [kind]
        schema = Schema(kinds)
        fields.clear()
        rows[0].append("b")
        rows.append([])
        kinds.clear()
        kind.names().append("c")
        schema.names().append("C")
        self.assertEqual(schema.written(), "kind A { a: int 0..1; key a; }")
        self.assertEqual((kind.names(), schema.names()), (["a"], ["A"]))

    def test_constraints(self):
        self.assertEqual(constraints_of(book()), ["Book.title needed", "Book key title"])
        self.assertEqual(constraints_of(Kind("A", [], [])), [])
        text = "kind A { a: int 0..1 not null; b: text 3; key c, a; c: ref A not null; key b; }"
        self.assertEqual(constraints_of(read_schema(text).kinds[0]),
                         ["A.a needed", "A.c needed", "A key c, a", "A key b"])


if __name__ == "__main__":
    unittest.main()
