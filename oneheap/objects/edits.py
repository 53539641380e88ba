"""What single edits of a view leave behind."""

from oneheap.objects.thing import holds_number

MOST_LINKED = 12


class Edit:
    """An edit that stands: its deed, and what it did.

    `things` is a dict from the numbers of the objects that it made or changed to their things, and of those that it
    deleted to None; `made` is the list of the numbers of the objects that it made, `named` the list of the pairs of a
    number and the name of a field that counts as set.
    """

    def __init__(self, deed, things, made, named):
        self.deed = deed
        self.things = dict(things)
        self.made = list(made)
        self.named = list(named)


def laid_things(edits):
    """Return the dict from numbers to the things that edits leave behind, None for the deleted ones."""
    laid = {}
    for edit in edits:
        laid.update(edit.things)
    return laid


def with_content(thing, field, content):
    """Return a thing like the given one but for one content."""
    changed = thing.copied()
    changed.contents[field] = content
    return changed


def linked(numbers, other, behind):
    """Return the numbers of a list with another one behind one of them, or ahead of all."""
    rest = without_number(numbers, other)
    place = 0 if behind is None else rest.index(behind) + 1
    return rest[:place] + [other] + rest[place:]


def without_number(numbers, other):
    """Return the numbers of a list without one of them."""
    return [number for number in numbers if number != other]


def without_any(content, gone):
    """Return a content without the numbers that are gone."""
    if isinstance(content, list):
        return [number for number in content if number not in gone]
    return None if holds_any(content, gone) else content


def holds_any(content, gone):
    """Return whether a content holds one of the numbers that are gone."""
    return any([holds_number(content, number) for number in gone])
