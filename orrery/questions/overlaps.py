"""Overlaps: the ticks that rows of two lists have in common; a row begins with its first and last tick."""


def overlaps(first, second):
    """The tuples (begin, end, row of the first, row of the second) of common ticks.

    They come in the order of the first list and, within that, of the second one.
    """
    ends = _greatest_so_far([row[1] for row in second])
    begins = _least_from_here([row[0] for row in second])
    found = []
    for one in first:
        # All rows before `low` end before this one begins, all from `high` on begin behind its end.
        low = _count_below(ends, one[0])
        high = _count_below(begins, one[1] + 1)
        for other in second[low:high]:
            begin = max(one[0], other[0])
            end = min(one[1], other[1])
            if begin <= end:
                found.append((begin, end, one, other))
    return found


def _greatest_so_far(numbers):
    told = []
    for number in numbers:
        told.append(max(number, told[-1]) if told else number)
    return told


def _least_from_here(numbers):
    told = []
    for number in reversed(numbers):
        told.append(min(number, told[-1]) if told else number)
    told.reverse()
    return told


def _count_below(numbers, limit):
    """How many numbers of a list, none of which is less than the one before it, are below a limit."""
    low = 0
    high = len(numbers)
    while low < high:
        half = (low + high) // 2
        if numbers[half] < limit:
            low = half + 1
        else:
            high = half
    return low
