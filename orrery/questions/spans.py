"""Spans, pairs (begin, end) of ticks, and lines, pairs (yes, no) of lists of spans."""

from orrery.questions.overlaps import overlaps


def joined(spans):
    """The spans in order, without empty ones, and those that touch or overlap made one."""
    made = []
    for begin, end in sorted([span for span in spans if span[0] <= span[1]]):
        if made and begin <= made[-1][1] + 1:
            before = made.pop()
            made.append((before[0], max(before[1], end)))
        else:
            made.append((begin, end))
    return made


def common(first, second):
    """The common ticks of each span of the first list and each one of the second."""
    return [(begin, end) for begin, end, _, _ in overlaps(first, second)]


def earlier_begins(spans, ticks):
    """The joined spans, each of which begins earlier."""
    return joined([(begin - ticks, end) for begin, end in joined(spans)])


def later_ends(spans, ticks):
    """The joined spans, each of which ends later."""
    return joined([(begin, end + ticks) for begin, end in joined(spans)])


def earlier_ends(spans, ticks):
    """The joined spans, each of which ends earlier."""
    return joined([(begin, end - ticks) for begin, end in joined(spans)])


def later_begins(spans, ticks):
    """The joined spans, each of which begins later."""
    return joined([(begin + ticks, end) for begin, end in joined(spans)])


def negated(line):
    """The line of: it does not hold."""
    yes, no = line
    return (list(no), list(yes))


def both(first, second):
    """The line of: both hold."""
    return (joined(common(first[0], second[0])), joined(first[1] + second[1]))


def either(first, second):
    """The line of: one of them holds."""
    return negated(both(negated(first), negated(second)))


def soon(ticks, line):
    """The line of: it holds at some tick from this one to so many later."""
    yes, no = line
    return (earlier_begins(yes, ticks), earlier_ends(no, ticks))


def ahead(ticks, line):
    """The line of: it holds at all ticks from this one to so many later."""
    return negated(soon(ticks, negated(line)))


def lately(ticks, line):
    """The line of: it holds at some tick from so many earlier to this one."""
    yes, no = line
    return (later_ends(yes, ticks), later_begins(no, ticks))


def behind(ticks, line):
    """The line of: it holds at all ticks from so many earlier to this one."""
    return negated(lately(ticks, negated(line)))


def until(ticks, first, second):
    """The line of: the second holds at some tick up to so many later, and the first up to that tick."""
    yes = []
    # Only spans with a common tick make one that is not empty.
    for _, end, held, met in overlaps(joined(first[0]), joined(second[0])):
        yes.append((max(held[0], met[0] - ticks), end))
    no = first[1] + earlier_ends(second[1], ticks)
    for _, end, missed, _ in overlaps(joined(second[1]), first[1]):
        no.append((missed[0], end))
    return (joined(yes), joined(no))


def throughout(line, begin, end):
    """Whether a condition holds at all ticks from `begin` to `end`."""
    yes, no = line
    for first, last in joined(yes):
        if first <= begin and end <= last:
            return "sure"
    if common(no, [(begin, end)]):
        return "impossible"
    return "unknown"


def first_tick(line, begin, end):
    """The tuple (surely none, low, high) of the first tick at which a condition holds."""
    yes, no = line
    low = begin
    for first, last in joined(no):
        if first <= begin <= last:
            low = last + 1
    if low > end:
        return (True, None, None)
    held = common(joined(yes), [(begin, end)])
    return (False, low, held[0][0] if held else None)


def rises(line, begin, end):
    """The number of times that a condition surely begins to hold."""
    yes, no = line
    whole = [(begin, end)]
    # Of the same tick those of no stand first.
    begins = [(first, 0) for first, _ in common(joined(no), whole)]
    begins.extend([(first, 1) for first, _ in common(joined(yes), whole)])
    words = [word for _, word in sorted(begins)]
    return len([1 for before, after in zip(words, words[1:]) if before == 0 and after == 1])
