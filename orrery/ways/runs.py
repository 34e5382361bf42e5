"""Runs: what is told of the pieces of a course that have ticks of a span."""


def shares(pieces, begin, end):
    """The triples (first tick, last tick, piece) of the ticks that pieces have from `begin` to `end`."""
    told = []
    for piece in pieces:
        first = max(begin, piece.begin)
        last = min(end, piece.end)
        if first <= last:
            told.append((first, last, piece))
    return told


def agreed(words, otherwise):
    """The word that all words of a list are, or another one if they differ."""
    for word in words:
        if word != words[0]:
            return otherwise
    return words[0]


def runs_of(spans):
    """The spans (first tick, last tick, word), those that touch and have the same word made one."""
    runs = []
    for first, last, word in spans:
        if runs and runs[-1][2] == word and runs[-1][1] + 1 == first:
            before = runs.pop()
            runs.append((before[0], last, word))
        else:
            runs.append((first, last, word))
    return runs
