"""The line of living versions."""


class Version:
    """A version: its number, its schema, the step that leads to it (None for the first one), and whether it is shut."""

    def __init__(self, number, schema, step, shut=False):
        self.number = number
        self.schema = schema
        self.step = step
        self.shut = shut


class Line:
    """Versions, the eldest first; those next to each other are neighbours."""

    def __init__(self, versions):
        self.versions = list(versions)

    def place_of(self, number):
        """Return the index of the version with this number, or None."""
        numbers = self.version_numbers()
        return numbers.index(number) if number in numbers else None

    def schema_of(self, number):
        """Return the schema of the version with this number."""
        return self.versions[self.place_of(number)].schema

    def version_numbers(self):
        """Return the list of the numbers of the versions, the eldest first."""
        return [version.number for version in self.versions]
