"""What the words and signs of queries make of values."""

LARGEST = 1000000000000


class Scene:
    """Where an expression is looked at.

    It has a view, the parameters, the dict from names to the objects that they are, and the objects of the group.
    """

    def __init__(self, view, parameters, names, group):
        self.view = view
        self.parameters = parameters
        self.names = names
        self.group = group

    def with_name(self, name, number):
        """Return a scene like this one in which a name is the object with a number."""
        return Scene(self.view, self.parameters, {**self.names, name: number}, self.group)


def bounded_amount(amount):
    """Return an integer, or None if it is beyond the bounds."""
    return amount if -LARGEST <= amount <= LARGEST else None


def computed(sign, left, right):
    """Return what "+", "-" or "*" makes of two integers, each of which may be None."""
    if left is None or right is None:
        return None
    if sign == "*":
        return bounded_amount(left * right)
    return bounded_amount(left + right if sign == "+" else left - right)


def negated(amount):
    """Return what "-" makes of an integer, which may be None."""
    return None if amount is None else bounded_amount(-amount)


def is_true(sign, left, right):
    """Return whether a comparison of two values is true."""
    if left is None or right is None:
        return sign == "=" and left is None and right is None
    if sign == "=":
        return left == right
    if sign == "!=":
        return left != right
    if sign == "starts":
        return left.startswith(right)
    return right in left if sign == "holds" else is_ahead(sign, left, right)


def is_ahead(sign, left, right):
    """Return whether two integers or two texts stand in an order."""
    if sign == "<":
        return left < right
    if sign == "<=":
        return left <= right
    return left > right if sign == ">" else left >= right


def total_of(word, amounts):
    """Return the sum, the least or the greatest of the amounts that are not None."""
    told = [amount for amount in amounts if amount is not None]
    if word == "sum":
        return bounded_amount(sum(told))
    if len(told) == 0:
        return None
    return min(told) if word == "least" else max(told)
