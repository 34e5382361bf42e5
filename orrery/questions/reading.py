"""What the expression of a question stands for.

Of an expression that does not stand for what is looked for, the functions below return None.
"""

from orrery.data import LAST_TICK
from orrery.data import LONGEST_NAME
from orrery.errors import BadQuestion
from orrery.questions.expressions import parse_expression

MOST_EACH = 2
SPANNED = ("throughout", "sometime", "never", "first", "rises", "times")
DELAYS = ("soon", "ahead", "lately", "behind")
CHOICES = ("some", "every")
ARITHMETIC = {"+": "sum", "-": "difference", "*": "product"}
JUNCTIONS = {"&": "and", "|": "or"}
COMPARISONS = {"<": "less", "<=": "at most"}
# These are read as those above, with their sides exchanged.
EXCHANGED = {">": "less", ">=": "at most"}


def read_question(text):
    """The question that a text is, a tuple."""
    question = _question(parse_expression(text), MOST_EACH)
    if question is None:
        raise BadQuestion(0)
    return question


def last_tick(question):
    """The last tick of a question."""
    if question[0] == "each":
        return last_tick(question[2])
    if question[0] == "range":
        return question[2]
    return min(LAST_TICK, question[2] + _reach(question[3]))


def _reach(condition):
    """By how many ticks a condition looks ahead."""
    match condition:
        case ("soon" | "ahead", ticks, inner):
            return ticks + _reach(inner)
        case ("until", ticks, first, second):
            return ticks + max(_reach(first), _reach(second))
        case ("and" | "or", first, second):
            return max(_reach(first), _reach(second))
        case ("not", inner):
            return _reach(inner)
        case ("lately" | "behind" | "some" | "every", _, inner):
            return _reach(inner)
        case _:
            return 0


def _made(word, parts):
    """The tuple of a word and its parts, or None if one of them is None."""
    if None in parts:
        return None
    return (word, *parts)


def _question(expression, most):
    """The question; so many each, one in the other, may stand in it."""
    match expression:
        case ("call", "at", (at, asked)):
            return _spanned("throughout", at, at, _condition(asked))
        case ("call", "range", (begin, end, asked)):
            return _spanned("range", begin, end, _quantity(asked))
        case ("call", "each", (name, asked)):
            if most == 0:
                return None
            return _made("each", [_name(name), _question(asked, most - 1)])
        case ("call", word, (begin, end, asked)):
            if word not in SPANNED:
                return None
            return _spanned(word, begin, end, _condition(asked))
        case _:
            return None


def _spanned(word, begin, end, asked):
    """The question about the ticks from one to another one."""
    first = _tick(begin)
    last = _tick(end)
    if first is None or last is None or last < first:
        return None
    return _made(word, [first, last, asked])


def _word(expression):
    """The word that an expression is."""
    if expression[0] != "word":
        return None
    return expression[1]


def _tick(expression):
    word = _word(expression)
    if word is None or not word.isdigit() or int(word) > LAST_TICK:
        return None
    return int(word)


def _name(expression):
    word = _word(expression)
    if word is None or len(word) > LONGEST_NAME:
        return None
    return word


def _named(kind, word, operands):
    """The quantity or fact of a word that does not consist of digits, with names behind it."""
    names = [_name(operand) for operand in operands]
    if word.isdigit() or None in names:
        return None
    return (kind, word, tuple(names))


def _condition(expression):
    match expression:
        case ("not", inner):
            return _made("not", [_condition(inner)])
        case ("pair", sign, left, right):
            return _pair_condition(sign, left, right)
        case ("call", word, operands):
            return _call_condition(word, operands)
        case _:
            return None


def _pair_condition(sign, left, right):
    if sign in JUNCTIONS:
        return _made(JUNCTIONS[sign], [_condition(left), _condition(right)])
    if sign in COMPARISONS:
        return _made(COMPARISONS[sign], [_quantity(left), _quantity(right)])
    if sign in EXCHANGED:
        return _made(EXCHANGED[sign], [_quantity(right), _quantity(left)])
    return None


def _call_condition(word, operands):
    match operands:
        case (first, second) if word in DELAYS:
            return _made(word, [_tick(first), _condition(second)])
        case (first, second) if word in CHOICES:
            return _made(word, [_name(first), _condition(second)])
        case (first, second, third) if word == "until":
            return _made(word, [_tick(first), _condition(second), _condition(third)])
        case _:
            if word in DELAYS or word in CHOICES or word == "until":
                return None
            return _named("fact", word, operands)


def _quantity(expression):
    match expression:
        case ("word", word):
            return ("number", int(word)) if word.isdigit() else None
        case ("minus", digits):
            return ("number", -int(digits))
        case ("call", word, operands):
            return _named("value", word, operands)
        case ("pair", sign, left, right):
            if sign not in ARITHMETIC:
                return None
            return _made(ARITHMETIC[sign], [_quantity(left), _quantity(right)])
        case _:
            return None
