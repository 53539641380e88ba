"""Tables: their columns and keys."""


class Column:
    """A column: its role is "value", "reference" or "links"; targets are the names of tables."""

    def __init__(self, name, role, targets=()):
        self.name = name
        self.role = role
        self.targets = list(targets)

    def copied(self):
        """Return an equal column that shares nothing with this one."""
        return Column(self.name, self.role, self.targets)

    def __eq__(self, other):
        if not isinstance(other, Column) or self.name != other.name:
            return False
        return self.role == other.role and self.targets == other.targets


class StoreKey:
    """A key: its name, and the indexes of its columns."""

    def __init__(self, name, places):
        self.name = name
        self.places = list(places)

    def copied(self):
        """Return an equal key that shares nothing with this one."""
        return StoreKey(self.name, self.places)

    def __eq__(self, other):
        return isinstance(other, StoreKey) and self.name == other.name and self.places == other.places


class Table:
    """A table: its name, its columns, and its keys."""

    def __init__(self, name, columns, unique=()):
        self.name = name
        self.columns = [column.copied() for column in columns]
        self.unique = [key.copied() for key in unique]

    def __eq__(self, other):
        if not isinstance(other, Table) or self.name != other.name:
            return False
        return self.columns == other.columns and self.unique == other.unique


def table_named(tables, name):
    """Return the table with this name, or None."""
    for table in tables:
        if table.name == name:
            return table
    return None
