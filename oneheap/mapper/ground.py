"""What the sessions of a mapper stand on: the line, the kept heaps with their rows, and what was written last."""

from oneheap.errors import NoSuchVersion
from oneheap.heap.heap import Heap
from oneheap.heap.line import Line, Version
from oneheap.heap.spreading import spread
from oneheap.layouts.layout import Layout
from oneheap.layouts.source import RowSource
from oneheap.objects.constraints import first_against, picture_size
from oneheap.objects.touching import touched
from oneheap.planner.planning import plan_rows

MOST_HEAPS = 8
MOST_SIZE = 400
MOST_REQUESTS = 60


class KeptHeap:
    """A heap, the places of its objects, and its rows in the tables of a layout."""

    def __init__(self, layout, heap, places):
        self.heap = heap
        self.lay(layout, places)

    def lay(self, layout, places):
        """Lay the objects, which have the given places, in the tables of a layout."""
        self.layout = layout
        self.places = dict(places)
        self.rows = layout.rows_of(self.heap, self.places)
        self.sources = {}

    def source_of(self, version):
        """Return the source of a version, which reads the rows."""
        if version not in self.sources:
            self.sources[version] = RowSource(self.layout, self.rows, version)
        return self.sources[version]


class Ground:
    """The state of a mapper."""

    def __init__(self, schema):
        self.line = Line([Version(1, schema, None)])
        self.given = 1
        self.layout = Layout(self.line)
        self.now = 0
        self.kept = {0: KeptHeap(self.layout, Heap({1: {}}), {})}
        self.last_written = None
        self.sessions = {}
        self.requests = []

    def present(self):
        """Return the kept heap of now."""
        return self.kept[self.now]

    def picture_now(self, version):
        """Return the picture that a version has in the heap of now."""
        return self.present().heap.picture_of(version)

    def source_now(self, version):
        """Return the source of a version over the rows of now."""
        return self.present().source_of(version)

    def place_of(self, number):
        """Return the index of a living version in the line."""
        place = self.line.place_of(number)
        if place is None:
            raise NoSuchVersion()
        return place

    def version_of(self, number):
        """Return a living version."""
        return self.line.versions[self.place_of(number)]

    def serves(self, number):
        """Return whether the sessions of a version may go on: it was neither shut nor ended."""
        place = self.line.place_of(number)
        return place is not None and not self.line.versions[place].shut

    def note(self, number, requests):
        """Note the requests of a session."""
        told = [(number, request.what, request.numbers) for request in requests]
        self.requests = (self.requests + told)[-MOST_REQUESTS:]

    def flush(self, version, number, view):
        """Take the edits of a view, which lies on the heap of now, or refuse them; return what the flush returns."""
        schema = view.schema
        base = self.picture_now(version)
        picture = view.picture(base)
        touches = touched(view)
        against = first_against(schema, picture, touches)
        if against is not None:
            return ("against", *against)
        size = picture_size(schema, picture)
        if size > MOST_SIZE and size > picture_size(schema, base):
            return ("too large",)
        heap = spread(self.line, self.present().heap, version, picture, touches)
        if heap != self.present().heap:
            self.go_on(heap, version, number)
        return ("taken",)

    def go_on(self, heap, version, number):
        """Make a heap the one of now, as a session of a version flushed it."""
        old = self.present().places
        places = {}
        for one in self.line.version_numbers():
            for thing in heap.picture_of(one):
                stays = thing in old and thing in heap.picture_of(old[thing])
                places[thing] = old[thing] if stays else version
        laid = KeptHeap(self.layout, heap, places)
        self.write("flush", number, laid.rows)
        self.now += 1
        self.kept[self.now] = laid
        if self.now - MOST_HEAPS in self.kept:
            del self.kept[self.now - MOST_HEAPS]

    def write(self, word, number, wanted):
        """Make what leads from the rows of now to the wanted ones the last transaction, if it is anything."""
        statements = plan_rows(self.layout.tables, self.present().rows, wanted)
        if len(statements) > 0:
            self.last_written = (word, number, statements)

    def move(self, version, many):
        """Place up to a number of objects of now at a version, the least first."""
        kept = self.present()
        places = dict(kept.places)
        elsewhere = [number for number in sorted(self.picture_now(version)) if places[number] != version]
        for number in elsewhere[:many]:
            places[number] = version
        self.write("move", None, self.layout.rows_of(kept.heap, places))
        kept.lay(self.layout, places)

    def relay(self, line, layout, kept):
        """Go over to another line with other kept heaps, which lie in the tables of its layout."""
        self.line = line
        self.layout = layout
        self.kept = kept
