"""Quantities: enclosures (begin, end, interval), and how they are combined and compared."""

from orrery.questions.overlaps import overlaps
from orrery.questions.spans import joined
from orrery.questions.spans import negated
from orrery.space.intervals import add
from orrery.space.intervals import multiply
from orrery.space.intervals import subtract


def combined(word, first, second):
    """The enclosures of the "sum", "difference" or "product" of two quantities."""
    made = []
    for begin, end, one, other in overlaps(first, second):
        made.append((begin, end, _combined(word, one[2], other[2])))
    return made


def _combined(word, a, b):
    if word == "sum":
        return add(a, b)
    if word == "difference":
        return subtract(a, b)
    return multiply(a, b)


def less(first, second):
    """The line of: the first quantity is less than the second."""
    yes = []
    no = []
    for begin, end, one, other in overlaps(first, second):
        if one[2][1] < other[2][0]:
            yes.append((begin, end))
        elif one[2][0] >= other[2][1]:
            no.append((begin, end))
    return (joined(yes), joined(no))


def at_most(first, second):
    """The line of: the first quantity is at most the second."""
    return negated(less(second, first))
