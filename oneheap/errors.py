"""All errors of the package."""


class HeapError(ValueError):
    """The base of all errors of the package."""


class Fault(HeapError):
    """A text cannot be read."""

    def __init__(self, place, reason):
        self.place = place
        self.reason = reason


class Told(HeapError):
    """The base of the errors that a script keeps."""

    def __init__(self, label):
        self.label = label


class NoSuchKind(Told):
    """The schema has no kind of this name."""

    def __init__(self):
        Told.__init__(self, "no such kind")


class NoSuchObject(Told):
    """No object with this number is there."""

    def __init__(self):
        Told.__init__(self, "no such object")


class NoSuchField(Told):
    """The kind has no field of this name."""

    def __init__(self):
        Told.__init__(self, "no such field")


class NoSuchKey(Told):
    """The kind has no key of these fields."""

    def __init__(self):
        Told.__init__(self, "no such key")


class FieldIsList(Told):
    """The field is a list, and must be none."""

    def __init__(self):
        Told.__init__(self, "field is a list")


class FieldIsNoList(Told):
    """The field is no list, and must be one."""

    def __init__(self):
        Told.__init__(self, "field is no list")


class FieldIsNoLink(Told):
    """The field is neither a reference nor a list."""

    def __init__(self):
        Told.__init__(self, "field is no link")


class ValueDoesNotFit(Told):
    """The field cannot have this value."""

    def __init__(self):
        Told.__init__(self, "value does not fit")


class NotLinked(Told):
    """The list does not tell this number."""

    def __init__(self):
        Told.__init__(self, "not linked")


class ListIsFull(Told):
    """The list tells as many numbers as it may."""

    def __init__(self):
        Told.__init__(self, "list is full")


class TooManyLines(Told):
    """The answer of a query has too many lines."""

    def __init__(self):
        Told.__init__(self, "too many lines")


class NoSuchVersion(HeapError):
    """No living version has this number."""


class VersionIsShut(HeapError):
    """No more sessions are opened for the version."""


class NumberTaken(HeapError):
    """A session was opened with this number before."""


class TooManySessions(HeapError):
    """As many sessions are open as may be."""


class SessionClosed(HeapError):
    """The session was closed."""


class VersionEnded(HeapError):
    """The version of the session was shut or ended."""


class SessionTooOld(HeapError):
    """The heap of the session's moment is no longer kept."""


class SessionTooLong(HeapError):
    """The session's script is as long as it may be."""


class TooManyObjects(HeapError):
    """The session made as many objects as it may."""


class OnlyVersion(HeapError):
    """The line has no other version."""


class NotAtAnEnd(HeapError):
    """The version stands between two others."""


class TooManyVersions(HeapError):
    """As many versions live, or were given, as may be."""


class TooManyColumns(HeapError):
    """The tables would have too many columns together."""


class RowsOutOfOrder(HeapError):
    """The rows break a rule of the store."""


class MarksLeft(HeapError):
    """A transaction left a mark behind."""


class NoParameter(HeapError):
    """A parameter of a query is not given."""

    def __init__(self, name):
        self.name = name


class WrongParameter(HeapError):
    """A parameter of a query does not fit."""

    def __init__(self, name):
        self.name = name


class NumberTwice(HeapError):
    """A number has rows in two main tables."""

    def __init__(self, number):
        self.number = number


class CannotMove(HeapError):
    """An object is moved where some column cannot follow it."""

    def __init__(self, number):
        self.number = number


class StatementRefused(HeapError):
    """A statement of a transaction cannot be made."""

    def __init__(self, place, reason, number=None):
        self.place = place
        self.reason = reason
        self.number = number
