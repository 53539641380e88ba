"""Points [74] to [82] over lines of one to four versions: strands, kin, store keys, tables, and rows read back."""

import itertools
import unittest

from helper import line_of, thing
from oneheap.heap.heap import Heap
from oneheap.heap.spreading import spread, with_version
from oneheap.heap.line import Line
from oneheap.layouts.layout import Layout, column_count
from oneheap.layouts.strands import carried_keys, kin_of, strand_of
from oneheap.objects.source import PictureSource
from oneheap.objects.touching import touched
from oneheap.objects.view import View
from oneheap.store.rows import Row
from oneheap.store.tables import table_named

LINE = line_of(
    "kind A { a: int 0..9; b: int 0..9; c: text 9; d: ref A or B; l: list B; key a; } kind B { n: int 0..99; key n; }",
    "rename A.a to x; change A.b: int 0..5 else 1; gone A.c; rename B to C;",
    "rename A.x to y; new A.c: text 9; replace C (n) by (h: int 0..9, m: int 0..99) as (0 * n + 1, n);",
    "rename A to Z; gone A.l; rename A.c to cc; change C.h: int 0..5;",
)


def flushed(line, heap, number, *deeds):
    """Return the heap behind deeds of a version."""
    view = View(line.schema_of(number), PictureSource(heap.picture_of(number)))
    for deed in deeds:
        view.do(deed)
    return spread(line, heap, number, view.picture(heap.picture_of(number)), touched(view))


class StrandsTest(unittest.TestCase):
    def test_one_version(self):
        line = line_of("kind A { a: int 0..9; } kind B { a: int 0..9; }")
        self.assertEqual(strand_of(line, 0, "A", "a"), (1, "A", "a"))
        self.assertEqual(strand_of(line, 0, "B", "a"), (1, "B", "a"))

    def test_four_versions(self):
        rows = [
            (0, "A", "a", (1, "A", "a")), (1, "A", "x", (1, "A", "a")), (2, "A", "y", (1, "A", "a")), (3, "Z", "y", (1, "A", "a")),
            (0, "A", "b", (1, "A", "b")), (1, "A", "b", (2, "A", "b")), (2, "A", "b", (2, "A", "b")), (3, "Z", "b", (2, "A", "b")),
            (0, "A", "c", (1, "A", "c")), (2, "A", "c", (3, "A", "c")), (3, "Z", "cc", (3, "A", "c")),
            (1, "A", "d", (1, "A", "d")), (3, "Z", "d", (1, "A", "d")), (2, "A", "l", (1, "A", "l")),
            (0, "B", "n", (1, "B", "n")), (1, "C", "n", (1, "B", "n")), (2, "C", "h", (3, "C", "h")), (2, "C", "m", (3, "C", "m")),
            (3, "C", "h", (4, "C", "h")), (3, "C", "m", (3, "C", "m")),
        ]
        for place, kind, field, strand in rows:
            self.assertEqual(strand_of(LINE, place, kind, field), strand, (place, kind, field))

    def test_the_numbers_of_versions_tell_strands(self):
        line = Line(LINE.versions[1:])
        self.assertEqual(strand_of(line, 2, "Z", "y"), (2, "A", "x"))
        self.assertEqual(strand_of(line, 0, "A", "x"), (2, "A", "x"))


class KinTest(unittest.TestCase):
    LINE = line_of(
        'kind A { c: one of "x", "y", "z"; } kind B { } kind Q { c: int 0..1; }',
        'split A by c into "z" as Z, "x" as X, "y" as Y; new kind N { };',
        'join "n" as N, "z" as Z, "y" as Y into J by w; gone kind B;',
        "gone kind X; new kind B { };",
    )

    def test_from_the_eldest_on(self):
        rows = [(1, ["Z", "X", "Y"]), (2, ["J", "X"]), (3, ["J", None])]
        for other, kin in rows:
            self.assertEqual(kin_of(self.LINE, 0, "A", other), kin)

    def test_from_the_youngest_on(self):
        self.assertEqual(kin_of(self.LINE, 3, "J", 2), ["J"])
        self.assertEqual(kin_of(self.LINE, 3, "J", 1), ["Z", "Y", "N"])
        self.assertEqual(kin_of(self.LINE, 3, "J", 0), ["A", None])
        self.assertEqual([kin_of(self.LINE, 3, "B", other) for other in range(4)], [[None], [None], [None], ["B"]])
        self.assertEqual([kin_of(self.LINE, 0, "B", other) for other in range(4)], [["B"], ["B"], [None], [None]])

    def test_from_the_middle_on(self):
        self.assertEqual([kin_of(self.LINE, 1, "N", other) for other in range(4)], [[None], ["N"], ["J"], ["J"]])
        self.assertEqual([kin_of(self.LINE, 2, "X", other) for other in range(4)], [["A"], ["X"], ["X"], [None]])
        self.assertEqual([kin_of(self.LINE, 1, "Q", other) for other in range(4)], [["Q"]] * 4)


class KeysTest(unittest.TestCase):
    def test_carried_keys(self):
        self.assertEqual([(key.name, key.versions) for key in carried_keys(LINE)],
                         [("v1.A.key1", [("A", ["a"]), ("A", ["x"]), ("A", ["y"]), ("Z", ["y"])])])
        line = Line(LINE.versions[:2])
        self.assertEqual([key.name for key in carried_keys(line)], ["v1.A.key1", "v1.B.key1"])
        line = Line(LINE.versions[1:])
        self.assertEqual([(key.name, key.versions[2]) for key in carried_keys(line)], [("v2.A.key1", ("Z", ["y"]))])

    def test_keys_that_are_not_carried(self):
        schema = 'kind A { a: int 0..9; b: int 0..9; c: one of "p", "q"; key a; key b, c; }'
        for text, names in (("gone A.a;", ["v1.A.key2"]), ("change A.b: int 0..8;", ["v1.A.key1"]), ("gone key A (b, c);", ["v1.A.key1"]),
                            ('split A by c into "p" as P, "q" as Q;', []), ("rename A to B; rename A.a to z;", ["v1.A.key1", "v1.A.key2"]),
                            ("replace A (a) by (z: int 0..9) as (a);", ["v1.A.key2"]), ("new kind B { }; gone kind A;", [])):
            self.assertEqual([key.name for key in carried_keys(line_of(schema, text))], names, text)

    def test_younger_keys_are_no_store_keys(self):
        line = line_of("kind A { a: int 0..9; b: int 0..9; key b; }", "new key A (a);")
        self.assertEqual([key.name for key in carried_keys(line)], ["v1.A.key1"])
        self.assertEqual([key.name for key in carried_keys(Line([line.versions[1]]))], ["v2.A.key1", "v2.A.key2"])


class TablesTest(unittest.TestCase):
    def columns(self, line, name):
        return [column.name for column in table_named(Layout(line).tables, name).columns]

    def test_columns_of_other_versions(self):
        self.assertEqual(self.columns(LINE, "v1.A"), ["a", "b", "c", "d", "l", "v2.A.b"])
        self.assertEqual(self.columns(LINE, "v1.A#2"), ["v3.A.c"])
        self.assertEqual(self.columns(LINE, "v2.A"), ["x", "b", "d", "l", "v1.A.b", "v1.A.c"])
        self.assertEqual(self.columns(LINE, "v3.A"), ["y", "b", "d", "l", "c", "v1.A.b"])
        self.assertEqual(self.columns(LINE, "v3.A#2"), ["v1.A.c"])
        self.assertEqual(self.columns(LINE, "v4.Z"), ["y", "b", "d", "cc", "v1.A.b", "v1.A.c"])
        self.assertEqual(self.columns(LINE, "v4.Z#2"), ["v1.A.l"])
        self.assertEqual(self.columns(LINE, "v4.C"), ["h", "m", "v1.B.n", "v3.C.h"])

    def test_columns_of_kinds(self):
        line = KinTest.LINE
        self.assertEqual(self.columns(line, "v1.A"), ["c", "v2.kind", "v3.kind", "v3.J.w", "v4.kind"])
        self.assertEqual(self.columns(line, "v2.X"), ["v1.A.c"])
        self.assertEqual(self.columns(line, "v4.J"), ["w", "v1.kind", "v1.A.c", "v2.kind"])
        self.assertEqual(self.columns(line, "v2.N"), ["v3.J.w"])
        self.assertEqual(self.columns(line, "v4.B"), [])

    def test_targets_are_all_main_tables(self):
        tables = Layout(LINE).tables
        mains = ["v1.A", "v1.B", "v2.A", "v2.C", "v3.A", "v3.C", "v4.Z", "v4.C"]
        self.assertEqual([table.name for table in tables if "#" not in table.name], mains)
        linking = [column for table in tables for column in table.columns if column.role != "value"]
        self.assertEqual([column.targets for column in linking], [mains] * 8)
        self.assertEqual([column.role for column in linking], ["reference", "links"] * 4)
        self.assertEqual(column_count(tables), 4 * (7 + 4))

    def test_parts(self):
        fields = " ".join(f"f{place}: int 0..9;" for place in range(8))
        line = line_of("kind A { " + fields + " }", *[" ".join(f"change A.f{place}: int 0..{8 - at};" for place in range(6)) for at in (1, 2)])
        names = [table.name for table in Layout(line).tables]
        self.assertEqual(names, [f"v{version}.A{part}" for version in (1, 2, 3) for part in ("", "#2", "#3", "#4")])
        self.assertEqual(self.columns(line, "v2.A#2"), ["f6", "f7", "v1.A.f0", "v1.A.f1", "v1.A.f2", "v1.A.f3"])
        self.assertEqual(self.columns(line, "v2.A#4"), ["v3.A.f4", "v3.A.f5"])


class ReadBackTest(unittest.TestCase):
    def check_all_places(self, line, heap):
        layout = Layout(line)
        numbers = sorted({number for picture in heap.pictures.values() for number in picture})
        ways = [[version for version in line.version_numbers() if number in heap.picture_of(version)] for number in numbers]
        for row in itertools.product(*ways):
            places = dict(zip(numbers, row))
            rows = layout.rows_of(heap, places)
            ranks = [table.name for table in layout.tables]
            self.assertEqual([(ranks.index(one.table), one.number) for one in rows], sorted((ranks.index(one.table), one.number) for one in rows))
            self.assertEqual(layout.read(list(reversed(rows))), (heap, places))
            for number in numbers:
                found = layout.object_rows(heap, number, places[number])
                self.assertEqual(found, [one for one in rows if one.number == number])

    def test_renamed_changed_gone_new_and_replaced(self):
        heap = Heap({number: {} for number in (1, 2, 3, 4)})
        heap = flushed(LINE, heap, 1, ("make", 1, "A", {"a": 1, "b": 9, "c": "t"}), ("make", 2, "B", {"n": 70}), ("link", 1, "l", 2, None),
                       ("put", 1, "d", 2))
        heap = flushed(LINE, heap, 4, ("make", 3, "Z", {"y": 2, "cc": "w", "d": 1}), ("put", 1, "cc", "new"), ("put", 2, "m", 71))
        heap = flushed(LINE, heap, 2, ("put", 3, "b", 4), ("make", 4, "C", {"n": 7}), ("link", 1, "l", 4, 2))
        self.assertEqual(heap.picture_of(1)[1], thing("A", a=1, b=9, c="t", d=2, l=[2, 4]))
        self.check_all_places(LINE, heap)

    def test_objects_that_are_not_there_in_some_versions(self):
        line = KinTest.LINE
        heap = Heap({number: {} for number in (1, 2, 3, 4)})
        heap = flushed(line, heap, 1, ("make", 1, "A", {"c": "x"}), ("make", 2, "A", {"c": "y"}), ("make", 3, "B", {}))
        heap = flushed(line, heap, 4, ("make", 4, "B", {}), ("make", 5, "J", {"w": "n"}))
        self.assertEqual([sorted(heap.picture_of(number)) for number in (1, 2, 3, 4)], [[1, 2, 3], [1, 2, 3, 5], [1, 2, 5], [2, 4, 5]])
        self.check_all_places(line, heap)

    def test_contents_with_numbers_that_are_not_there(self):
        line = line_of("kind A { r: ref B or A; l: list B or A; } kind B { }", "gone kind B; new A.q: ref A;")
        heap = Heap({1: {}, 2: {}})
        heap = flushed(line, heap, 1, ("make", 1, "A", {}), ("make", 2, "B", {}), ("put", 1, "r", 2), ("link", 1, "l", 2, None))
        self.assertNotIn(2, heap.picture_of(2))
        self.check_all_places(line, heap)
        self.assertEqual(Layout(line).object_rows(heap, 1, 2)[0], Row("v2.A", 1, [2, [2], None]))

    def test_a_version_that_is_added(self):
        heap = Heap({1: {1: thing("A", a=1, b=9, c="t", d=2, l=[2]), 2: thing("B", n=70)}})
        for many in (2, 3, 4):
            line = Line(LINE.versions[:many])
            heap = with_version(line, heap)
            self.check_all_places(line, heap)

    def test_rows_depend_on_the_things_and_the_place_alone(self):
        heap = Heap({number: {} for number in (1, 2, 3, 4)})
        heap = flushed(LINE, heap, 1, ("make", 1, "A", {"a": 1}))
        layout = Layout(LINE)
        before = layout.object_rows(heap, 1, 3)
        heap = flushed(LINE, heap, 3, ("make", 2, "A", {"y": 2, "d": 1}))
        self.assertEqual(layout.object_rows(heap, 1, 3), before)


if __name__ == "__main__":
    unittest.main()
