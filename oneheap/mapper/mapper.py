"""Mappers: living versions of a schema over one heap of objects."""

from oneheap.errors import NumberTaken, TooManyColumns, TooManySessions, TooManyVersions, VersionIsShut
from oneheap.heap.line import Line, Version
from oneheap.heap.spreading import with_version, without_version
from oneheap.layouts.layout import Layout, column_count
from oneheap.mapper.ending import (
    check_at_an_end, first_standing, heap_at_ending, neighbour_of, places_at_ending, staying_line,
)
from oneheap.mapper.ground import Ground, KeptHeap
from oneheap.mapper.session import Session
from oneheap.schemas.reading import read_schema
from oneheap.steps.step import read_step

MOST_SESSIONS = 6
MOST_LIVING = 4
MOST_GIVEN = 40
MOST_COLUMNS = 300


class Mapper:
    """A mapper, which begins with one version, number 1."""

    def __init__(self, text):
        self.ground = Ground(read_schema(text))

    def start_session(self, version, number):
        """Open a session of a version under a number that none had, and return it."""
        if self.ground.version_of(version).shut:
            raise VersionIsShut()
        if number in self.ground.sessions:
            raise NumberTaken()
        if len([one for one in self.ground.sessions.values() if not one.closed]) == MOST_SESSIONS:
            raise TooManySessions()
        session = Session(self.ground, version, number)
        self.ground.sessions[number] = session
        return session

    def add_version(self, text):
        """Add a version behind the last one by a step, and return its number."""
        ground = self.ground
        versions = ground.line.versions
        step = read_step(versions[-1].schema, text)
        if len(versions) == MOST_LIVING or ground.given == MOST_GIVEN:
            raise TooManyVersions()
        line = Line([*versions, Version(ground.given + 1, step.younger, step)])
        layout = Layout(line)
        if column_count(layout.tables) > MOST_COLUMNS:
            raise TooManyColumns()
        kept = {}
        for moment, one in ground.kept.items():
            kept[moment] = KeptHeap(layout, with_version(line, one.heap), one.places)
        ground.relay(line, layout, kept)
        ground.given += 1
        return ground.given

    def shut(self, version):
        """Let no more sessions be opened for a version, and end those that it has."""
        living = self.ground.version_of(version)
        living.shut = True

    def end(self, version):
        """Take a version from an end of the line; return an object and a constraint against it if these refuse it."""
        ground = self.ground
        place = ground.place_of(version)
        check_at_an_end(ground.line, place)
        line = staying_line(ground.line, version)
        against = first_standing(line, without_version(ground.line, ground.present().heap, version))
        if against is None:
            self.take_away(version, neighbour_of(ground.line, place).number, line)
        return against

    def take_away(self, version, neighbour, line):
        """Take a version away, so that the given line stays; what is placed at it goes to its neighbour."""
        ground = self.ground
        layout = Layout(line)
        kept = {}
        for moment, one in ground.kept.items():
            heap = without_version(ground.line, one.heap, version)
            kept[moment] = KeptHeap(layout, heap, places_at_ending(heap, one.places, version, neighbour))
        left = heap_at_ending(ground.line, ground.present().heap, version)
        ground.write("end", None, ground.layout.rows_of(left, kept[ground.now].places))
        ground.relay(line, layout, kept)
        for session in ground.sessions.values():
            session.lay_anew()

    def move(self, version, many):
        """Place objects of now that are placed elsewhere, the least first, at a version that they are there in."""
        self.ground.place_of(version)
        self.ground.move(version, many)
