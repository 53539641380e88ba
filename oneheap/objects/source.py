"""Sources: what answers questions about the objects that one version sees."""

from oneheap.objects.thing import holds_number


class PictureSource:
    """A source that reads a picture."""

    def __init__(self, picture):
        self.things = picture

    def thing(self, number):
        """Return the thing with this number, or None."""
        return self.things.get(number)

    def numbers(self, kind):
        """Return the numbers of the objects of a kind, ascending."""
        return sorted([number for number, thing in self.things.items() if thing.kind == kind])

    def referrers(self, number, kind, field):
        """Return the numbers of the objects of a kind whose content of the field holds the number, ascending."""
        return [one for one in self.numbers(kind) if has_number(self.things[one], field, number)]

    def alike(self, kind, names, amounts):
        """Return the numbers of the objects of a kind whose contents of the fields are the amounts, ascending."""
        return [one for one in self.numbers(kind) if has_amounts(self.things[one], names, amounts)]


def has_number(thing, field, number):
    """Return whether the content of a field of the thing holds the number."""
    return field in thing.contents and holds_number(thing.contents[field], number)


def has_amounts(thing, names, amounts):
    """Return whether the contents of fields of the thing are the amounts, one by one."""
    return all([name in thing.contents and thing.contents[name] == amount for name, amount in zip(names, amounts)])
