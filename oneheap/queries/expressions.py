"""Expressions in the text of a query, with their sorts."""

from oneheap.errors import Fault
from oneheap.queries.meaning import LARGEST
from oneheap.queries.paths import read_list_path, read_plain_path, read_total_path
from oneheap.queries.sorts import ASKED, INTEGER, PARAMETER, TEXT, TRUTH, common_sort
from oneheap.queries.terms import (
    AND_LEVEL, OR_LEVEL, PRODUCT_LEVEL, SUM_LEVEL, AmongTerm, ChainTerm, CompareTerm, CountTerm, GroupTotal, ListTotal,
    MinusTerm, NotTerm, NullTerm, NumberTerm, ParameterTerm, SomeTerm, TextTerm,
)
from oneheap.words.reader import is_certain

COMPARISONS = ("=", "!=", "<", "<=", ">", ">=", "starts", "holds")
TOTALS = ("sum", "least", "greatest")
DIFFER = "sorts differ"


class Drawn:
    """An expression as it was read: its term, its sort, and the sorts of the parameters in it."""

    def __init__(self, term, word, parameters):
        self.term = term
        self.word = word
        self.parameters = parameters


def parameters_as(drawn, word):
    """Return the sorts of the parameters of an expression, which has this sort if it is a lone parameter."""
    return {drawn.term.name: word} if drawn.word == PARAMETER else drawn.parameters


def merged(rows, place):
    """Return the sorts of several rows of parameters together; the place is told if one has two."""
    found = {}
    for row in rows:
        for name, word in row.items():
            if found.setdefault(name, word) != word:
                raise Fault(place, DIFFER)
    return found


def joined_parameters(sign, sides):
    """Return the sorts of the parameters of the sides that the token of an operator joins."""
    word = common_sort(sign.text, [side.word for side in sides])
    if word is None:
        raise Fault(sign.place, DIFFER)
    return merged([parameters_as(side, word) for side in sides], sign.place)


def read_either(state):
    """Read an expression."""
    return read_chain(state, OR_LEVEL, ("or",), read_both)


def read_both(state):
    """Read what stands on one side of "or"."""
    return read_chain(state, AND_LEVEL, ("and",), read_turned)


def read_sum(state):
    """Read what stands on one side of a comparison."""
    return read_chain(state, SUM_LEVEL, ("+", "-"), read_product)


def read_product(state):
    """Read what stands on one side of "+" and "-"."""
    return read_chain(state, PRODUCT_LEVEL, ("*",), read_signed)


def read_chain(state, level, signs, read_side):
    """Read sides that some operators join from left to right."""
    left = read_side(state)
    while state.reader.stands_one(signs):
        sign = state.reader.take()
        right = read_side(state)
        parameters = joined_parameters(sign, [left, right])
        # What these operators ask of their sides is also the sort of what they make.
        left = Drawn(longer_chain(level, sign.text, left.term, right.term), ASKED[sign.text][0], parameters)
    return left


def longer_chain(level, sign, left, right):
    """Return a chain with one more side; it stays flat, so that long queries do not become deep."""
    if isinstance(left, ChainTerm) and left.level == level:
        return ChainTerm(level, left.first, left.rest + [(sign, right)])
    return ChainTerm(level, left, [(sign, right)])


def pass_all(state, text):
    """Take a word or sign as often as it stands here; return the last token and how many they are."""
    token = state.reader.here()
    many = 0
    while state.reader.stands(text):
        token = state.reader.take()
        many += 1
    return token, many


def read_turned(state):
    """Read what stands on one side of "and"."""
    word, many = pass_all(state, "not")
    inner = read_test(state)
    if many == 0:
        return inner
    if inner.word != TRUTH:
        raise Fault(word.place, DIFFER)
    return Drawn(NotTerm(many, inner.term), TRUTH, inner.parameters)


def read_test(state):
    """Read a test, or what stands alone in its place."""
    left = read_sum(state)
    if state.reader.stands_one(COMPARISONS):
        return read_comparison(state, left)
    if state.reader.stands("is"):
        return read_null(state, left)
    if state.reader.stands("in"):
        return read_among(state, left)
    return left


def read_comparison(state, left):
    """Read what stands behind the left side of a comparison."""
    sign = state.reader.take()
    right = read_sum(state)
    parameters = joined_parameters(sign, [left, right])
    return Drawn(CompareTerm(sign.text, left.term, right.term), TRUTH, parameters)


def read_null(state, left):
    """Read what stands behind what may be None."""
    word = state.reader.take()
    turned = state.reader.passes("not")
    state.reader.must("null")
    if left.word == TRUTH or left.word == PARAMETER:
        raise Fault(word.place, DIFFER)
    return Drawn(NullTerm(left.term, turned), TRUTH, left.parameters)


def read_among(state, left):
    """Read what stands behind what may be one of several others."""
    word = state.reader.take()
    state.reader.must("(")
    others = [read_sum(state)]
    while state.reader.passes(","):
        others.append(read_sum(state))
    state.reader.must(")")
    parameters = joined_parameters(word, [left, *others])
    return Drawn(AmongTerm(left.term, [other.term for other in others]), TRUTH, parameters)


def read_signed(state):
    """Read what stands on one side of "*"."""
    sign, many = pass_all(state, "-")
    inner = read_single(state)
    if many == 0:
        return inner
    if inner.word != INTEGER and inner.word != PARAMETER:
        raise Fault(sign.place, DIFFER)
    return Drawn(MinusTerm(many, inner.term), INTEGER, parameters_as(inner, INTEGER))


def read_single(state):
    """Read what no operator joins."""
    token = state.reader.here()
    if token.role == "number":
        return Drawn(read_number(state), INTEGER, {})
    if token.role == "text":
        return Drawn(TextTerm(state.reader.take().text), TEXT, {})
    if state.reader.stands(":"):
        return Drawn(read_parameter(state), PARAMETER, {})
    if state.reader.small_name_stands():
        path = read_plain_path(state)
        return Drawn(path.term, path.word, {})
    if state.reader.stands("("):
        return read_enclosed(state)
    if state.reader.stands_one(("some", "every")):
        return read_some(state)
    if state.reader.stands("count"):
        return read_count(state)
    if state.reader.stands_one(TOTALS):
        return read_total(state)
    raise Fault(token.place, "expected a term")


def read_number(state):
    """Read a number, and return its term."""
    token = state.reader.number_token()
    if int(token.text) > LARGEST:
        raise Fault(token.place, "number too large")
    return NumberTerm(int(token.text))


def read_parameter(state):
    """Read a parameter, and return its term."""
    state.reader.must(":")
    return ParameterTerm(state.small_name().text)


def read_enclosed(state):
    """Read an expression in parentheses."""
    state.enter(state.reader.take())
    inner = read_either(state)
    state.reader.must(")")
    state.leave()
    return inner


def read_over(state, name, path):
    """Read an expression in which a name is each object of a list, up to the parenthesis behind it."""
    state.names[name] = path.kinds
    inner = read_either(state)
    del state.names[name]
    state.reader.must(")")
    return inner


def read_some(state):
    """Read a "some" or an "every"."""
    word = state.reader.take()
    state.enter(word)
    name = state.new_name()
    state.reader.must("in")
    path = read_list_path(state)
    state.reader.must("(")
    inner = read_over(state, name, path)
    state.leave()
    if inner.word != TRUTH:
        raise Fault(path.place, DIFFER)
    return Drawn(SomeTerm(word.text, name, path.term, inner.term), TRUTH, inner.parameters)


def read_count(state):
    """Read a count of a list, or of the group."""
    word = state.reader.take()
    state.reader.must("(")
    if state.reader.passes(")"):
        refuse_without_group(state, word)
        return Drawn(CountTerm(None), INTEGER, {})
    path = read_list_path(state)
    state.reader.must(")")
    return Drawn(CountTerm(path.term), INTEGER, {})


def refuse_without_group(state, word):
    """Refuse the word of a total of a group where there is none."""
    if state.groups is None:
        raise Fault(word.place, "no group")


def read_total(state):
    """Read a sum, a least or a greatest."""
    word = state.reader.take()
    state.enter(word)
    state.reader.must("(")
    if state.reader.small_name_stands() and is_certain(state.reader.following(), "in"):
        total = read_list_total(state, word)
    else:
        total = read_group_total(state, word)
    state.leave()
    return total


def read_list_total(state, word):
    """Read a total of an expression over a list, behind its parenthesis."""
    name = state.new_name()
    state.reader.must("in")
    path = read_list_path(state)
    state.reader.must(":")
    inner = read_over(state, name, path)
    check_total(word, inner.word)
    return Drawn(ListTotal(word.text, name, path.term, inner.term), inner.word, inner.parameters)


def read_group_total(state, word):
    """Read a total of a path over the group, behind its parenthesis."""
    if state.reader.small_name_stands():
        refuse_without_group(state, word)
    path = read_total_path(state)
    state.reader.must(")")
    check_total(word, path.word)
    return Drawn(GroupTotal(word.text, path.term), path.word, {})


def check_total(word, sort):
    """Refuse a total of a wrong sort at its word."""
    if sort not in ASKED[word.text]:
        raise Fault(word.place, DIFFER)
