"""What the tests share."""

import unittest

from oneheap.errors import Fault
from oneheap.heap.line import Line, Version
from oneheap.objects.thing import Thing
from oneheap.schemas.reading import read_schema
from oneheap.steps.step import read_step


def unmarked(text):
    """Return the text without its mark `|`, and the place of the mark."""
    place = text.index("|")
    return text[:place] + text[place + 1:], place


def padded(text, length):
    """Return the text with blanks behind it, so that it has the length."""
    assert len(text) <= length
    return text + " " * (length - len(text))


class FaultCase(unittest.TestCase):
    """A case that looks at faults."""

    def told_fault(self, call):
        with self.assertRaises(Fault) as caught:
            call()
        return caught.exception.place, caught.exception.reason

    def check_fault(self, read, marked, reason):
        """Check that reading raises the fault at the mark `|` of the text."""
        text, place = unmarked(marked)
        with self.subTest(text=marked):
            self.assertEqual(self.told_fault(lambda: read(text)), (place, reason))

    def check_faults(self, read, rows):
        for marked, reason in rows:
            self.check_fault(read, marked, reason)


def step_of(schema, text):
    """Return the step of a text from the schema of another text."""
    return read_step(read_schema(schema), text)


def thing(kind, **contents):
    """Return the thing of a kind with contents by the names of its fields."""
    return Thing(kind, contents)


def line_of(schema, *texts):
    """Return the line of versions 1, 2, 3 .. that begins with the schema of a text and goes on with the steps of texts."""
    versions = [Version(1, read_schema(schema), None)]
    for text in texts:
        step = read_step(versions[-1].schema, text)
        versions.append(Version(len(versions) + 1, step.younger, step))
    return Line(versions)
