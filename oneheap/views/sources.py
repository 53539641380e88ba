"""Integers within bounds of which forms make given integers."""


class Equation:
    """What a form asks of two integers: `first` times one and `second` times the other make `total`."""

    def __init__(self, first, second, total):
        self.first = first
        self.second = second
        self.total = total

    def is_empty(self):
        """Return whether the equation depends on neither integer."""
        return self.first == 0 and self.second == 0

    def goes_with(self, other):
        """Return whether the other equation, with factors in the same proportion, holds where this one does."""
        if self.first * other.total != other.first * self.total:
            return False
        return self.second * other.total == other.second * self.total

    def crossed_with(self, other):
        """Return the number that is 0 if the factors of both equations are in the same proportion."""
        return self.first * other.second - other.first * self.second


def nearest_source(forms, names, bounds, made, old):
    """Return the list of integers within the bounds of which the forms make the made ones, or None.

    Of several those nearest to the old values are returned, the least ones if there are none.
    """
    equations = [equation_of(form, names, value) for form, value in zip(forms, made)]
    goals = [None, None] if old is None or None in old else [*old, 0]
    # A group of one field is solved as one of two, of which the second can only be 0.
    found = nearest_pair(equations, [*bounds, (0, 0)], goals)
    return None if found is None else found[:len(names)]


def equation_of(form, names, value):
    """Return what a form asks of one or two fields to make a value."""
    constant = sum([amount for amount, name in form.terms if name is None])
    factors = [form.factor_of(name) for name in names] + [0]
    return Equation(factors[0], factors[1], value - constant)


def nearest_pair(equations, bounds, goals):
    """Return the nearest two integers within the bounds for which all equations hold, or None."""
    leading = [equation for equation in equations if not equation.is_empty()]
    if any([equation.is_empty() and equation.total != 0 for equation in equations]):
        return None
    if len(leading) == 0:
        return [nearest_within(bounds[0], goals[0]), nearest_within(bounds[1], goals[1])]
    first = leading[0]
    for other in leading:
        if first.crossed_with(other) != 0:
            return crossing(first, other, bounds)
    if not all([first.goes_with(other) for other in leading]):
        return None
    return nearest_on_line(first, bounds, goals)


def nearest_within(bounds, goal):
    """Return the integer within the bounds that is nearest to the goal, or the least one without a goal."""
    low, high = bounds
    return low if goal is None else min(max(goal, low), high)


def crossing(first, second, bounds):
    """Return the only two integers for which both equations hold, or None if they are not within the bounds."""
    crossed = first.crossed_with(second)
    one, one_rest = divmod(first.total * second.second - second.total * first.second, crossed)
    other, other_rest = divmod(first.first * second.total - second.first * first.total, crossed)
    if one_rest != 0 or other_rest != 0 or not is_within(one, bounds[0]) or not is_within(other, bounds[1]):
        return None
    return [one, other]


def is_within(value, bounds):
    """Return whether a value is within bounds."""
    return bounds[0] <= value <= bounds[1]


def nearest_on_line(equation, bounds, goals):
    """Return the nearest two integers within the bounds for which one equation holds, or None."""
    if equation.second == 0:
        found = exact_within(equation.first, equation.total, bounds[0])
        return None if found is None else [found, nearest_within(bounds[1], goals[1])]
    if equation.first == 0:
        found = exact_within(equation.second, equation.total, bounds[1])
        return None if found is None else [nearest_within(bounds[0], goals[0]), found]
    divisor, part = common_divisor(equation.first, equation.second)
    share, rest = divmod(equation.total, divisor)
    return None if rest != 0 else nearest_turned(equation, divisor, part * share, bounds, goals[0])


def exact_within(factor, total, bounds):
    """Return the integer within the bounds that the factor takes to the total, or None."""
    found, rest = divmod(total, factor)
    return found if rest == 0 and is_within(found, bounds) else None


def common_divisor(first, second):
    """Return the greatest common divisor with the sign of the second number, and a factor for the first one.

    The first number times the factor is the divisor and a multiple of the second number.
    """
    part, next_part = 1, 0
    while second != 0:
        share = first // second
        first, second = second, first - share * second
        part, next_part = next_part, part - share * next_part
    return first, part


def nearest_turned(equation, divisor, start, bounds, goal):
    """Return the nearest two integers of those to which one can turn from the start, or None.

    All pairs for which the equation holds lie on a line, one step behind the other. The divisor has the sign of the
    second factor, so that the first integer grows with each step.
    """
    step = equation.second // divisor
    other_step = -(equation.first // divisor)
    other_start = (equation.total - equation.first * start) // equation.second
    least, most = turns_within(start, step, bounds[0])
    other_least, other_most = turns_within(other_start, other_step, bounds[1])
    least, most = max(least, other_least), min(most, other_most)
    if least > most:
        return None
    turn = least if goal is None else nearest_turn(start, step, (least, most), goal)
    return [start + turn * step, other_start + turn * other_step]


def turns_within(start, step, bounds):
    """Return the least and the greatest number of steps that lead from the start into the bounds."""
    low, high = bounds
    if step < 0:
        start, step, low, high = -start, -step, -high, -low
    return -((start - low) // step), (high - start) // step


def nearest_turn(start, step, turns, goal):
    """Return the number of steps, of those within the turns, that leads nearest to the goal."""
    below = nearest_within(turns, (goal - start) // step)
    above = nearest_within(turns, below + 1)
    is_nearer = abs(start + above * step - goal) < abs(start + below * step - goal)
    return above if is_nearer else below
