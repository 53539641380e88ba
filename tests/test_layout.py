"""Points [74] to [82]: strands, kin, store keys, tables and rows of a line; and sources over rows."""

import unittest

from helper import line_of, thing
from oneheap.heap.heap import Heap
from oneheap.heap.spreading import spread
from oneheap.layouts.layout import Layout, column_count
from oneheap.layouts.source import RowSource
from oneheap.layouts.strands import CarriedKey, carried_keys, kin_of, strand_of
from oneheap.objects.source import PictureSource
from oneheap.objects.touching import touched
from oneheap.objects.view import View
from oneheap.store.rows import Row
from oneheap.store.tables import Column, StoreKey, table_named

LINE = line_of(
    'kind Book { title: text 9; n: int 0..9; also: list Book; author: ref Author; key n, title; key author; } '
    'kind Author { name: text 9; way: one of "p", "q"; key name; } kind Firm { f: int 0..9; }',
    'rename Book to Tome; rename Book.n to z; split Author by way into "q" as Queen, "p" as Poet; new kind Fresh { a: int 0..1; };',
    'gone Tome.also; gone kind Firm; join "q" as Queen, "p" as Poet into Person by sort; rename Fresh.a to b;',
)


class StrandsTest(unittest.TestCase):
    def test_strand_of(self):
        rows = [(0, "Book", "n", (1, "Book", "n")), (1, "Tome", "z", (1, "Book", "n")), (2, "Tome", "z", (1, "Book", "n")),
                (2, "Tome", "title", (1, "Book", "title")), (1, "Tome", "also", (1, "Book", "also")),
                (1, "Queen", "name", (2, "Queen", "name")), (2, "Person", "name", (3, "Person", "name")),
                (2, "Person", "sort", (3, "Person", "sort")), (2, "Fresh", "b", (2, "Fresh", "a")), (1, "Firm", "f", (1, "Firm", "f"))]
        for place, kind, field, strand in rows:
            self.assertEqual(strand_of(LINE, place, kind, field), strand)

    def test_kin_of(self):
        rows = [(0, "Book", 0, ["Book"]), (0, "Book", 2, ["Tome"]), (2, "Tome", 0, ["Book"]), (0, "Author", 1, ["Queen", "Poet"]),
                (0, "Author", 2, ["Person"]), (2, "Person", 1, ["Queen", "Poet"]), (2, "Person", 0, ["Author"]),
                (1, "Poet", 0, ["Author"]), (1, "Poet", 2, ["Person"]), (0, "Firm", 1, ["Firm"]), (0, "Firm", 2, [None]),
                (2, "Fresh", 1, ["Fresh"]), (2, "Fresh", 0, [None]), (1, "Fresh", 1, ["Fresh"])]
        for place, kind, other, kin in rows:
            self.assertEqual(kin_of(LINE, place, kind, other), kin, (place, kind, other))

    def test_kin_that_can_be_not_there(self):
        line = line_of('kind A { c: one of "x", "y"; } kind Z { }', 'split A by c into "y" as Y, "x" as X;', "gone kind Y;",
                       "new kind W { };")
        self.assertEqual(kin_of(line, 0, "A", 2), ["X", None])
        self.assertEqual(kin_of(line, 0, "A", 3), ["X", None])
        self.assertEqual(kin_of(line, 1, "Y", 3), [None])
        self.assertEqual(kin_of(line, 3, "W", 0), [None])
        line = line_of("kind A { }", "new kind B { };", 'join "a" as A, "b" as B into C by w;')
        self.assertEqual(kin_of(line, 2, "C", 1), ["A", "B"])
        self.assertEqual(kin_of(line, 2, "C", 0), ["A", None])

    def test_carried_keys(self):
        found = [(key.name, key.versions) for key in carried_keys(LINE)]
        self.assertEqual(found, [("v1.Book.key1", [("Book", ["n", "title"]), ("Tome", ["z", "title"]), ("Tome", ["z", "title"])])])
        line = line_of("kind A { a: int 0..9; b: int 0..9; c: int 0..9; key a; key b; key c; }", "gone key A (b);",
                       "rename A.a to d; change A.c: int 0..5;")
        self.assertEqual([(key.name, key.versions) for key in carried_keys(line)],
                         [("v1.A.key1", [("A", ["a"]), ("A", ["a"]), ("A", ["d"])])])

    def test_keys_with_references_are_no_store_keys(self):
        line = line_of("kind A { a: int 0..9; b: int 0..9; r: ref A; key a, r; key b; }", "")
        self.assertEqual([key.name for key in carried_keys(line)], ["v1.A.key2"])

    def test_carried_key(self):
        names = ["a"]
        versions = [("A", names)]
        key = CarriedKey("k", versions)
        names.append("b")
        versions.append(("B", names))
        self.assertEqual((key.name, key.versions), ("k", [("A", ["a"])]))


class TablesTest(unittest.TestCase):
    def test_names_in_order(self):
        self.assertEqual([table.name for table in Layout(LINE).tables], [
            "v1.Book", "v1.Author", "v1.Author#2", "v1.Firm", "v2.Tome", "v2.Queen", "v2.Poet", "v2.Firm", "v2.Fresh",
            "v3.Tome", "v3.Person", "v3.Person#2", "v3.Fresh",
        ])

    def columns(self, name):
        return [column.name for column in table_named(Layout(LINE).tables, name).columns]

    def test_columns(self):
        self.assertEqual(self.columns("v1.Book"), ["n", "title", "also", "author"])
        self.assertEqual(self.columns("v3.Tome"), ["z", "title", "author", "v1.Book.also"])
        self.assertEqual(self.columns("v1.Author"), ["name", "way", "v2.kind", "v2.Queen.name", "v2.Poet.name", "v3.Person.sort"])
        self.assertEqual(self.columns("v1.Author#2"), ["v3.Person.name"])
        self.assertEqual(self.columns("v2.Poet"), ["name", "v1.Author.name", "v1.Author.way", "v3.Person.sort", "v3.Person.name"])
        self.assertEqual(self.columns("v3.Person"), ["sort", "name", "v1.Author.name", "v1.Author.way", "v2.kind", "v2.Queen.name"])
        self.assertEqual(self.columns("v3.Person#2"), ["v2.Poet.name"])

    def test_roles_targets_and_keys(self):
        tables = Layout(LINE).tables
        mains = [table.name for table in tables if "#" not in table.name]
        book = table_named(tables, "v1.Book")
        self.assertEqual(book.columns, [Column("n", "value"), Column("title", "value"), Column("also", "links", mains),
                                        Column("author", "reference", mains)])
        self.assertEqual(book.unique, [StoreKey("v1.Book.key1", [0, 1])])
        self.assertEqual(table_named(tables, "v3.Tome").unique, [StoreKey("v1.Book.key1", [0, 1])])
        self.assertEqual(table_named(tables, "v1.Author#2").unique, [])
        self.assertEqual(table_named(tables, "v1.Author").columns[2], Column("v2.kind", "value"))
        self.assertEqual(column_count(tables), 4 + 7 + 1 + 4 + 5 + 5 + 1 + 1 + 4 + 7 + 1)

    def test_as_many_columns_as_keys_have(self):
        line = line_of("kind A { a: int 0..9; b: int 0..9; c: int 0..9; d: int 0..9; e: int 0..9; f: int 0..9; g: int 0..9; "
                       "h: int 0..9; key h, g, f; key a, b; key d, e; }")
        found = Layout(line).tables
        self.assertEqual([[column.name for column in table.columns] for table in found], [["h", "g", "f", "a", "b", "d", "e"], ["c"]])
        self.assertEqual(found[0].unique, [StoreKey("v1.A.key1", [0, 1, 2]), StoreKey("v1.A.key2", [3, 4]), StoreKey("v1.A.key3", [5, 6])])
        line = line_of("kind A { a: int 0..9; b: int 0..9; c: int 0..9; d: int 0..9; e: int 0..9; f: int 0..9; g: int 0..9; }")
        self.assertEqual([table.name for table in Layout(line).tables], ["v1.A", "v1.A#2"])


class RowsTest(unittest.TestCase):
    PLACES = {1: 2, 2: 1, 3: 3, 4: 3, 5: 1}

    def setUp(self):
        heap = Heap({1: {}, 2: {}, 3: {}})
        for number, deeds in ((1, [("make", 1, "Author", {"name": "a", "way": "p"}), ("make", 2, "Book", {"title": "x", "n": 5, "author": 1}),
                                   ("link", 2, "also", 2, None), ("make", 5, "Firm", {"f": 7})]),
                              (3, [("make", 3, "Fresh", {"b": 1}), ("make", 4, "Person", {"name": "b"})])):
            view = View(LINE.schema_of(number), PictureSource(heap.picture_of(number)))
            for deed in deeds:
                view.do(deed)
            heap = spread(LINE, heap, number, view.picture(heap.picture_of(number)), touched(view))
        self.heap = heap

    def test_rows_of(self):
        self.assertEqual(Layout(LINE).rows_of(self.heap, self.PLACES), [
            Row("v1.Book", 2, [5, "x", [2], 1]),
            Row("v1.Firm", 5, [7]),
            Row("v2.Poet", 1, ["a", "a", "p", "p", "a"]),
            Row("v3.Person", 4, [None, "b", "b", "q", "Queen", "b"]),
            Row("v3.Person#2", 4, [None]),
            Row("v3.Fresh", 3, [1]),
        ])

    def test_object_rows(self):
        layout = Layout(LINE)
        self.assertEqual(layout.object_rows(self.heap, 4, 3), [Row("v3.Person", 4, [None, "b", "b", "q", "Queen", "b"]),
                                                               Row("v3.Person#2", 4, [None])])
        self.assertEqual(layout.object_rows(self.heap, 2, 3), [Row("v3.Tome", 2, [5, "x", 1, [2]])])

    def test_a_column_of_a_kind_is_none_if_the_object_is_not_there(self):
        line = line_of('kind A { c: one of "x", "y"; }', 'split A by c into "y" as Y, "x" as X;', "gone kind Y;")
        heap = Heap({1: {1: thing("A", c="y"), 2: thing("A", c="x")}, 2: {1: thing("Y"), 2: thing("X")}, 3: {2: thing("X")}})
        rows = Layout(line).rows_of(heap, {1: 1, 2: 1})
        self.assertEqual(rows, [Row("v1.A", 1, ["y", "Y", None]), Row("v1.A", 2, ["x", "X", "X"])])
        self.assertEqual(Layout(line).read(rows), (heap, {1: 1, 2: 1}))

    def test_strands_with_several_contents_tell_the_first_one(self):
        line = line_of("kind A { a: int 0..9; l: list A; }", "rename A.a to b;")
        heap = Heap({1: {1: thing("A", a=1, l=[1])}, 2: {1: thing("A", b=2, l=[])}})
        self.assertEqual(Layout(line).object_rows(heap, 1, 2), [Row("v2.A", 1, [1, [1]])])

    def test_read(self):
        layout = Layout(LINE)
        places = ({1: 1, 2: 1, 3: 2, 4: 1, 5: 1}, {1: 2, 2: 2, 3: 3, 4: 2, 5: 2}, {1: 3, 2: 3, 3: 3, 4: 3, 5: 1}, self.PLACES)
        for one in places:
            self.assertEqual(layout.read(layout.rows_of(self.heap, one)), (self.heap, one))
        self.assertEqual(layout.read([]), (Heap({1: {}, 2: {}, 3: {}}), {}))

    def test_row_source(self):
        layout = Layout(LINE)
        rows = layout.rows_of(self.heap, self.PLACES)
        for number in (1, 2, 3):
            source = RowSource(layout, rows, number)
            self.assertIsInstance(source, PictureSource)
            picture = self.heap.picture_of(number)
            for one in range(1, 7):
                self.assertEqual(source.thing(one), picture.get(one))
            for kind in LINE.schema_of(number).names():
                self.assertEqual(source.numbers(kind), PictureSource(picture).numbers(kind))
        source = RowSource(layout, rows, 1)
        self.assertEqual((source.referrers(1, "Book", "author"), source.alike("Book", ["title", "n"], ["x", 5])), ([2], [2]))
        source.thing(2).contents["also"].append(9)
        self.assertEqual(rows, layout.rows_of(self.heap, self.PLACES))

    def test_rows_share_nothing_with_the_heap(self):
        layout = Layout(LINE)
        before = self.heap.copied()
        layout.object_rows(self.heap, 2, 1)[0].cells[2].append(9)
        rows = layout.rows_of(self.heap, self.PLACES)
        heap, places = layout.read(rows)
        heap.picture_of(1)[2].contents["also"].append(9)
        self.assertEqual(self.heap, before)
        self.assertEqual(rows, layout.rows_of(self.heap, self.PLACES))


if __name__ == "__main__":
    unittest.main()
