"""Answers: what is known of the conditions and quantities that questions ask about."""

from orrery.questions.known import Known
from orrery.questions.quantities import at_most
from orrery.questions.quantities import combined
from orrery.questions.quantities import less
from orrery.questions.reading import last_tick
from orrery.questions.reading import read_question
from orrery.questions.spans import ahead
from orrery.questions.spans import behind
from orrery.questions.spans import both
from orrery.questions.spans import common
from orrery.questions.spans import either
from orrery.questions.spans import first_tick
from orrery.questions.spans import joined
from orrery.questions.spans import lately
from orrery.questions.spans import negated
from orrery.questions.spans import rises
from orrery.questions.spans import soon
from orrery.questions.spans import throughout
from orrery.questions.spans import until

EXCHANGED = {"sure": "impossible", "impossible": "sure", "unknown": "unknown"}


def ask(contents, text):
    """The answer to the question that a text is."""
    question = read_question(text)
    return _answer(Known(contents, last_tick(question)), question, {})


# In what follows `told` is a dict from the names that some, every and each tell to names of crafts.


def _answer(known, question, told):
    match question:
        case ("each", name, inner):
            return _each(known, name, inner, told)
        case ("range", begin, end, quantity):
            return _range(_enclosures(known, quantity, told), begin, end)
        case (word, begin, end, condition):
            return _spanned(word, begin, end, _line(known, condition, told))


def _each(known, name, inner, told):
    """The pairs (name of a craft, answer to a question for this craft in place of a name)."""
    return [(craft.name, _answer(known, inner, {**told, name: craft.name})) for craft in known.crafts]


def _range(enclosures, begin, end):
    """The least low and the greatest high from one tick to another one, or None."""
    spans = [(first, last) for first, last, _ in enclosures]
    if throughout((spans, []), begin, end) != "sure":
        return None
    there = [interval for first, last, interval in enclosures if first <= end and begin <= last]
    return (min([low for low, _ in there]), max([high for _, high in there]))


def _spanned(word, begin, end, line):
    if word == "throughout":
        return throughout(line, begin, end)
    if word == "sometime":
        return EXCHANGED[throughout(negated(line), begin, end)]
    if word == "never":
        return throughout(negated(line), begin, end)
    if word == "first":
        return first_tick(line, begin, end)
    if word == "rises":
        return rises(line, begin, end)
    yes, no = line
    whole = [(begin, end)]
    return (common(joined(yes), whole), common(joined(no), whole))


def _line(known, condition, told):
    """The line of a condition."""
    match condition:
        case ("not", inner):
            return negated(_line(known, inner, told))
        case ("and", first, second):
            return both(_line(known, first, told), _line(known, second, told))
        case ("or", first, second):
            return either(_line(known, first, told), _line(known, second, told))
        case ("less", low, high):
            return less(_enclosures(known, low, told), _enclosures(known, high, told))
        case ("at most", low, high):
            return at_most(_enclosures(known, low, told), _enclosures(known, high, told))
        case ("every", name, inner):
            return _every(known, name, inner, told)
        case ("some", name, inner):
            return negated(_every(known, name, ("not", inner), told))
        case ("fact", word, names):
            return known.fact(word, _meant(names, told))
        case ("until", ticks, first, second):
            return until(ticks, _line(known, first, told), _line(known, second, told))
        case (word, ticks, inner):
            return _shifted(word, ticks, _line(known, inner, told))


def _shifted(word, ticks, line):
    if word == "soon":
        return soon(ticks, line)
    if word == "ahead":
        return ahead(ticks, line)
    if word == "lately":
        return lately(ticks, line)
    return behind(ticks, line)


def _every(known, name, inner, told):
    """The line of: a condition holds for every craft in place of a name."""
    line = ([(0, known.last)], [])
    # Where the name is not used, all crafts come to the same; so a question of many such names ends, too.
    crafts = known.crafts if _uses(inner, name) else known.crafts[:1]
    for craft in crafts:
        line = both(line, _line(known, inner, {**told, name: craft.name}))
    return line


def _uses(asked, name):
    """True if a name that is told ahead of a condition or quantity is used in it, otherwise False."""
    match asked:
        case ("fact" | "value", _, names):
            return name in names
        case ("some" | "every", other, inner):
            return other != name and _uses(inner, name)
        case _:
            return any([_uses(part, name) for part in asked if isinstance(part, tuple)])


def _enclosures(known, quantity, told):
    """The enclosures of a quantity."""
    match quantity:
        case ("number", number):
            return [(0, known.last, (number, number))]
        case ("value", word, names):
            return known.quantity(word, _meant(names, told))
        case (word, first, second):
            return combined(word, _enclosures(known, first, told), _enclosures(known, second, told))


def _meant(names, told):
    """The names, those that were told replaced by the names that they stand for."""
    return tuple([told.get(name, name) for name in names])
