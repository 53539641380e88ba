"""Scripts: the deeds of a session with their answers, and how they are told anew."""

from oneheap.errors import Told
from oneheap.objects.view import Refusing, View
from oneheap.queries.deeds import do
from oneheap.reading.reader import Reader

EDITS = ("make", "put", "link", "unlink", "delete")


class Entry:
    """A deed with its answer: a pair of "value" and what was returned, or of "error" and a label."""

    def __init__(self, deed, answer):
        self.deed = told_copy(deed)
        self.answer = told_copy(answer)

    def is_edit(self):
        """Return whether the deed was an edit that was made."""
        word, amount = self.answer
        return self.deed[0] in EDITS and word == "value" and not isinstance(amount, Refusing)

    def is_undo(self):
        """Return whether the deed took an edit off."""
        return self.deed[0] == "undo" and self.answer == ("value", True)


class Retelling:
    """A script told anew: the view and its reader, and where and how it was told otherwise, or None and None."""

    def __init__(self, view, reader, place, answer):
        self.view = view
        self.reader = reader
        self.place = place
        self.answer = answer


def told_copy(told):
    """Return an equal deed or answer, or part of one, that shares nothing with the given one."""
    if isinstance(told, tuple):
        return tuple([told_copy(one) for one in told])
    if isinstance(told, list):
        return [told_copy(one) for one in told]
    if isinstance(told, dict):
        return {name: told_copy(one) for name, one in told.items()}
    return Refusing(told.number, told.field) if isinstance(told, Refusing) else told


def standing_places(script):
    """Return the indexes of the entries whose edits stand, ascending."""
    found = []
    for place, entry in enumerate(script):
        if entry.is_edit():
            found.append(place)
        elif entry.is_undo():
            found.pop()
    return found


def tell_anew(schema, source, script):
    """Tell a script anew on a source, up to the first deed whose answer differs."""
    reader = Reader(source)
    view = View(schema, reader)
    for place, entry in enumerate(script):
        answer = answer_now(view, entry.deed)
        if answer != entry.answer:
            return Retelling(view, reader, place, answer)
    return Retelling(view, reader, None, None)


def answer_now(view, deed):
    """Do a deed on a view, and return its answer."""
    try:
        return "value", do(view, deed)
    except Told as error:
        return "error", error.label
