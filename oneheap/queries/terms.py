"""The expressions of queries: how they are written, and what they are worth in a scene."""

from oneheap.queries.meaning import computed, is_true, negated, total_of
from oneheap.words.tokens import quoted

# What joins more loosely has a lesser level.
OR_LEVEL = 1
AND_LEVEL = 2
NOT_LEVEL = 3
TEST_LEVEL = 4
SUM_LEVEL = 5
PRODUCT_LEVEL = 6
MINUS_LEVEL = 7
SINGLE_LEVEL = 8


def enclosed(term, level):
    """Return a term as text where one of at least a level must stand."""
    return term.written() if term.level >= level else f"({term.written()})"


class SingleTerm:
    """A term that never needs parentheses."""

    def __init__(self):
        self.level = SINGLE_LEVEL


class NumberTerm(SingleTerm):
    """A number."""

    def __init__(self, amount):
        SingleTerm.__init__(self)
        self.amount = amount

    def written(self):
        """Return the term as text."""
        return str(self.amount)

    def worth(self, scene):
        """Return what the term is worth in a scene."""
        return self.amount


class TextTerm(SingleTerm):
    """A text."""

    def __init__(self, text):
        SingleTerm.__init__(self)
        self.text = text

    def written(self):
        """Return the term as text."""
        return quoted(self.text)

    def worth(self, scene):
        """Return what the term is worth in a scene."""
        return self.text


class ParameterTerm(SingleTerm):
    """A parameter."""

    def __init__(self, name):
        SingleTerm.__init__(self)
        self.name = name

    def written(self):
        """Return the term as text."""
        return f":{self.name}"

    def worth(self, scene):
        """Return what the term is worth in a scene."""
        return scene.parameters.get(self.name)


class PathTerm(SingleTerm):
    """A name, and the fields behind it."""

    def __init__(self, name, fields):
        SingleTerm.__init__(self)
        self.name = name
        self.fields = list(fields)

    def written(self):
        """Return the term as text."""
        return ".".join([self.name, *self.fields])

    def worth(self, scene):
        """Return what the term is worth in a scene."""
        return self.led(scene, self.fields)

    def listed_in(self, scene):
        """Return the numbers that the list to which the path leads tells in a scene."""
        number = self.led(scene, self.fields[:-1])
        return [] if number is None else scene.view.listed(number, self.fields[-1])

    def led(self, scene, fields):
        """Return what fields lead to from the object that the name is, or None where they come by None."""
        found = scene.names[self.name]
        for field in fields:
            if found is None:
                return None
            found = scene.view.told(found, field)
        return found


class SomeTerm(SingleTerm):
    """Whether an expression is true of some, or of every object of a list."""

    def __init__(self, word, name, path, inner):
        SingleTerm.__init__(self)
        self.word = word
        self.name = name
        self.path = path
        self.inner = inner

    def written(self):
        """Return the term as text."""
        return f"{self.word} {self.name} in {self.path.written()} ({self.inner.written()})"

    def worth(self, scene):
        """Return what the term is worth in a scene."""
        sought = self.word == "some"
        for number in self.path.listed_in(scene):
            if self.inner.worth(scene.with_name(self.name, number)) == sought:
                return sought
        return not sought


class CountTerm(SingleTerm):
    """The number of objects of a list, or of the group if the path is None."""

    def __init__(self, path):
        SingleTerm.__init__(self)
        self.path = path

    def written(self):
        """Return the term as text."""
        return "count()" if self.path is None else f"count({self.path.written()})"

    def worth(self, scene):
        """Return what the term is worth in a scene."""
        return len(scene.group) if self.path is None else len(self.path.listed_in(scene))


class GroupTotal(SingleTerm):
    """A total of a path over the objects of the group."""

    def __init__(self, word, path):
        SingleTerm.__init__(self)
        self.word = word
        self.path = path

    def written(self):
        """Return the term as text."""
        return f"{self.word}({self.path.written()})"

    def worth(self, scene):
        """Return what the term is worth in a scene."""
        amounts = [self.path.worth(scene.with_name(self.path.name, number)) for number in scene.group]
        return total_of(self.word, amounts)


class ListTotal(SingleTerm):
    """A total of an expression over the objects of a list."""

    def __init__(self, word, name, path, inner):
        SingleTerm.__init__(self)
        self.word = word
        self.name = name
        self.path = path
        self.inner = inner

    def written(self):
        """Return the term as text."""
        return f"{self.word}({self.name} in {self.path.written()}: {self.inner.written()})"

    def worth(self, scene):
        """Return what the term is worth in a scene."""
        numbers = self.path.listed_in(scene)
        return total_of(self.word, [self.inner.worth(scene.with_name(self.name, number)) for number in numbers])


class ChainTerm:
    """Sides that operators of one level join from left to right: a first one, then pairs of a sign and a side."""

    def __init__(self, level, first, rest):
        self.level = level
        self.first = first
        self.rest = list(rest)

    def written(self):
        """Return the term as text."""
        row = [enclosed(self.first, self.level)]
        for sign, side in self.rest:
            row.extend([sign, enclosed(side, self.level + 1)])
        return " ".join(row)

    def worth(self, scene):
        """Return what the term is worth in a scene."""
        if self.level == OR_LEVEL or self.level == AND_LEVEL:
            return self.truth(scene)
        amount = self.first.worth(scene)
        for sign, side in self.rest:
            amount = computed(sign, amount, side.worth(scene))
        return amount

    def sides(self):
        """Return the list of the sides."""
        return [self.first, *[side for _, side in self.rest]]

    def truth(self, scene):
        """Return whether "or" or "and" is true of the sides."""
        sought = self.level == OR_LEVEL
        for side in self.sides():
            if side.worth(scene) == sought:
                return sought
        return not sought


class CompareTerm:
    """A comparison of two sides."""

    def __init__(self, sign, left, right):
        self.level = TEST_LEVEL
        self.sign = sign
        self.left = left
        self.right = right

    def written(self):
        """Return the term as text."""
        return f"{enclosed(self.left, SUM_LEVEL)} {self.sign} {enclosed(self.right, SUM_LEVEL)}"

    def worth(self, scene):
        """Return what the term is worth in a scene."""
        return is_true(self.sign, self.left.worth(scene), self.right.worth(scene))


class NullTerm:
    """Whether something is None, or whether it is not."""

    def __init__(self, inner, turned):
        self.level = TEST_LEVEL
        self.inner = inner
        self.turned = turned

    def written(self):
        """Return the term as text."""
        end = "is not null" if self.turned else "is null"
        return f"{enclosed(self.inner, SUM_LEVEL)} {end}"

    def worth(self, scene):
        """Return what the term is worth in a scene."""
        return (self.inner.worth(scene) is None) != self.turned


class AmongTerm:
    """Whether something is one of several others."""

    def __init__(self, inner, others):
        self.level = TEST_LEVEL
        self.inner = inner
        self.others = list(others)

    def written(self):
        """Return the term as text."""
        others = ", ".join([enclosed(other, SUM_LEVEL) for other in self.others])
        return f"{enclosed(self.inner, SUM_LEVEL)} in ({others})"

    def worth(self, scene):
        """Return what the term is worth in a scene."""
        amount = self.inner.worth(scene)
        return any([is_true("=", amount, other.worth(scene)) for other in self.others])


class NotTerm:
    """A truth with "not" ahead of it, once or more often."""

    def __init__(self, many, inner):
        self.level = NOT_LEVEL
        self.many = many
        self.inner = inner

    def written(self):
        """Return the term as text."""
        return "not " * self.many + enclosed(self.inner, NOT_LEVEL)

    def worth(self, scene):
        """Return what the term is worth in a scene."""
        return self.inner.worth(scene) == (self.many % 2 == 0)


class MinusTerm:
    """An integer with "-" ahead of it, once or more often."""

    def __init__(self, many, inner):
        self.level = MINUS_LEVEL
        self.many = many
        self.inner = inner

    def written(self):
        """Return the term as text."""
        return "-" * self.many + enclosed(self.inner, MINUS_LEVEL)

    def worth(self, scene):
        """Return what the term is worth in a scene."""
        amount = self.inner.worth(scene)
        for _ in range(self.many):
            amount = negated(amount)
        return amount
