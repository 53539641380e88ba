"""What is checked of kinds when their whole text has been read."""

from oneheap.errors import Fault
from oneheap.schemas.sorts import is_list

MOST_KINDS = 8
MOST_FIELDS = 8
MOST_KEYS = 3


def check_kinds(drafts):
    """Check all kinds of a schema."""
    names = [draft.name.text for draft in drafts]
    for at, draft in enumerate(drafts):
        if draft.name.text in names[:at]:
            raise Fault(draft.name.place, "kind twice")
        if at == MOST_KINDS:
            raise Fault(draft.name.place, "too many kinds")
        check_kind(draft, names)


def check_kind(draft, names):
    """Check the fields and keys of a kind, where the schema has kinds of these names."""
    check_fields(draft, names)
    check_keys(draft)


def check_fields(draft, names):
    """Check the fields of a kind."""
    earlier = []
    for field in draft.fields:
        if field.name.text in earlier:
            raise Fault(field.name.place, "field twice")
        if len(earlier) == MOST_FIELDS:
            raise Fault(field.name.place, "too many fields")
        for target in field.targets:
            if target.text not in names:
                raise Fault(target.place, "no such kind")
        earlier.append(field.name.text)


def check_keys(draft):
    """Check the keys of a kind."""
    shapes = {field.name.text: field.shape for field in draft.fields}
    keyed = []
    for at, row in enumerate(draft.key_rows):
        if at == MOST_KEYS:
            raise Fault(row[0].place, "too many keys")
        check_key(row, shapes)
        for name in row:
            if name.text in keyed:
                raise Fault(name.place, "field in two keys")
        keyed.extend([name.text for name in row])


def check_key(row, shapes):
    """Check the names of one key by themselves."""
    earlier = []
    for name in row:
        if name.text not in shapes:
            raise Fault(name.place, "no such field")
        if is_list(shapes[name.text]):
            raise Fault(name.place, "list in a key")
        if name.text in earlier:
            raise Fault(name.place, "field twice")
        earlier.append(name.text)
