"""Views: sources with edits laid on them."""

from oneheap.errors import (
    FieldIsList, FieldIsNoLink, FieldIsNoList, ListIsFull, NoSuchField, NoSuchKey, NoSuchKind, NoSuchObject, NotLinked,
    ValueDoesNotFit,
)
from oneheap.objects.deleting import all_going, cleared_fields, cleared_things, refusal
from oneheap.objects.edits import Edit, MOST_LINKED, laid_things, linked, with_content, without_number
from oneheap.objects.source import has_amounts, has_number
from oneheap.objects.thing import blank_thing, picture_copy, told_content
from oneheap.schemas.sorts import is_link, is_list, is_reference


class Refusing:
    """What a refused deletion returns: the object and the field that refuse it."""

    def __init__(self, number, field):
        self.number = number
        self.field = field

    def __eq__(self, other):
        return isinstance(other, Refusing) and self.number == other.number and self.field == other.field


class View:
    """A source with edits laid on it."""

    def __init__(self, schema, source):
        self.schema = schema
        self.source = source
        self.standing = []
        self.edits = []
        self.laid = {}

    def thing(self, number):
        """Return the thing with this number, or None."""
        if number not in self.laid:
            return self.source.thing(number)
        found = self.laid[number]
        return None if found is None else found.copied()

    def numbers(self, kind):
        """Return the numbers of the objects of a kind, ascending."""
        return self.seen(self.source.numbers(kind), self.laid_of(kind))

    def referrers(self, number, kind, field):
        """Return the numbers of the objects of a kind whose content of the field holds the number, ascending."""
        laid = [one for one in self.laid_of(kind) if has_number(self.laid[one], field, number)]
        return self.seen(self.source.referrers(number, kind, field), laid)

    def alike(self, kind, names, amounts):
        """Return the numbers of the objects of a kind whose contents of the fields are the amounts, ascending."""
        laid = [one for one in self.laid_of(kind) if has_amounts(self.laid[one], names, amounts)]
        return self.seen(self.source.alike(kind, names, amounts), laid)

    def laid_of(self, kind):
        """Return the numbers of the objects of a kind that edits made or changed."""
        return [number for number, thing in self.laid.items() if thing is not None and thing.kind == kind]

    def seen(self, numbers, laid):
        """Return the source's numbers that no edit made, changed or deleted, and those that are laid on."""
        return sorted([number for number in numbers if number not in self.laid] + laid)

    def there(self, number):
        """Return whether an object with the number is there."""
        return self.thing(number) is not None

    def kind_of(self, number):
        """Return the name of the object's kind."""
        return self.known(number).kind

    def told(self, number, field):
        """Return the told value of a field that is no list."""
        thing = self.known(number)
        found = self.single_field(thing, field)
        return told_content(self, found, thing.contents[field])

    def listed(self, number, field):
        """Return the told list of a list field."""
        thing = self.known(number)
        found = self.list_field(thing, field)
        return told_content(self, found, thing.contents[field])

    def look_up(self, kind, names, amounts):
        """Return the least number of the objects of a kind with these values of a key, or None."""
        found = self.known_kind(kind)
        if list(names) not in found.key_rows:
            raise NoSuchKey()
        # What is told is None or what the contents hold, so objects whose contents differ need no look.
        if None not in amounts:
            for number in self.alike(kind, list(names), list(amounts)):
                if None not in [self.told(number, name) for name in names]:
                    return number
        return None

    def referred(self, number, kind, field):
        """Return the numbers of the objects of a kind that tell the number by a reference or list, ascending."""
        thing = self.known(number)
        found = self.field_of(self.known_kind(kind).name, field)
        if not is_link(found.shape):
            raise FieldIsNoLink()
        return self.referrers(number, kind, field) if thing.kind in found.shape.kinds else []

    def known(self, number):
        """Return the thing of an object that must be there."""
        thing = self.thing(number)
        if thing is None:
            raise NoSuchObject()
        return thing

    def known_kind(self, name):
        """Return the kind of a name that the schema must have."""
        kind = self.schema.kind_of(name)
        if kind is None:
            raise NoSuchKind()
        return kind

    def field_of(self, kind, name):
        """Return the field that the kind must have."""
        field = self.schema.field_of(kind, name)
        if field is None:
            raise NoSuchField()
        return field

    def single_field(self, thing, name):
        """Return the field that the thing's kind must have, and that must be no list."""
        field = self.field_of(thing.kind, name)
        if is_list(field.shape):
            raise FieldIsList()
        return field

    def list_field(self, thing, name):
        """Return the field that the thing's kind must have, and that must be a list."""
        field = self.field_of(thing.kind, name)
        if not is_list(field.shape):
            raise FieldIsNoList()
        return field

    def make(self, number, kind, contents):
        """Make an object of a kind under a number that no object has."""
        made = blank_thing(self.known_kind(kind))
        given = {name: amount for name, amount in contents.items()}
        for name, amount in given.items():
            self.check_fits(self.single_field(made, name), amount)
        made.contents.update(given)
        names = [(number, name) for name in made.contents]
        self.stand(Edit(("make", number, kind, given), {number: made}, [number], names))

    def put(self, number, field, amount):
        """Set the content of a field that is no list."""
        thing = self.known(number)
        self.check_fits(self.single_field(thing, field), amount)
        self.set_content(("put", number, field, amount), thing, amount)

    def link(self, number, field, other, behind=None):
        """Put a number into a list, behind another one or ahead of all."""
        thing = self.known(number)
        found = self.list_field(thing, field)
        if not self.is_target(found.shape, other):
            raise ValueDoesNotFit()
        told = told_content(self, found, thing.contents[field])
        if behind is not None and (behind == other or behind not in told):
            raise NotLinked()
        if len(told) >= MOST_LINKED and other not in told:
            raise ListIsFull()
        self.set_content(("link", number, field, other, behind), thing, linked(thing.contents[field], other, behind))

    def unlink(self, number, field, other):
        """Take a number out of a list that tells it."""
        thing = self.known(number)
        found = self.list_field(thing, field)
        content = thing.contents[field]
        if other in told_content(self, found, content):
            content = without_number(content, other)
        self.set_content(("unlink", number, field, other), thing, content)

    def delete(self, number):
        """Delete an object; return what goes and what is cleared, or a Refusing."""
        self.known(number)
        going = all_going(self, number)
        refused = refusal(self, going)
        if refused is not None:
            return Refusing(refused[0], refused[1])
        cleared = cleared_fields(self, going)
        things = cleared_things(self, cleared, going)
        changed = list(things)
        things.update({one: None for one in going})
        self.stand(Edit(("delete", number), things, [], cleared))
        return [number, *sorted(going[1:])], changed

    def check_fits(self, field, amount):
        """Raise ValueDoesNotFit if a value does not fit a field that is no list."""
        if amount is None:
            return
        fits = self.is_target(field.shape, amount) if is_reference(field.shape) else field.shape.holds(amount)
        if not fits:
            raise ValueDoesNotFit()

    def is_target(self, shape, number):
        """Return whether a value is the number of an object to which a reference or list may refer."""
        if not isinstance(number, int) or isinstance(number, bool):
            return False
        thing = self.thing(number)
        return thing is not None and thing.kind in shape.kinds

    def set_content(self, deed, thing, content):
        """Let an edit stand that sets the field that its deed names."""
        number, field = deed[1], deed[2]
        self.stand(Edit(deed, {number: with_content(thing, field, content)}, [], [(number, field)]))

    def stand(self, edit):
        """Put an edit on the stack."""
        self.edits.append(edit)
        self.standing.append(edit.deed)
        self.laid.update(edit.things)

    def undo(self):
        """Take the last edit off; return False if none stands."""
        if len(self.edits) == 0:
            return False
        self.edits.pop()
        self.standing.pop()
        self.laid = laid_things(self.edits)
        return True

    def picture(self, base):
        """Return a new picture: the given one with the things of the edits laid on."""
        picture = picture_copy(base)
        for number, thing in self.laid.items():
            if thing is not None:
                picture[number] = thing.copied()
            elif number in picture:
                del picture[number]
        return picture

    def do(self, deed):
        """Call the method that a deed names with the deed's arguments, and return what it returns."""
        name = deed[0]
        told = deed[1:]
        if name == "there":
            return self.there(*told)
        if name == "kind_of":
            return self.kind_of(*told)
        if name == "told":
            return self.told(*told)
        if name == "listed":
            return self.listed(*told)
        if name == "look_up":
            return self.look_up(*told)
        if name == "referred":
            return self.referred(*told)
        if name == "make":
            return self.make(*told)
        if name == "put":
            return self.put(*told)
        if name == "link":
            return self.link(*told)
        if name == "unlink":
            return self.unlink(*told)
        return self.delete(*told) if name == "delete" else self.undo()
