"""Networks: choices of contacts of several crafts and sites at once.

Within this file a contact has its number behind its weight, its place in the list. The contacts that
go together with a contact are told by an integer: its binary digit of a number is 1 for those.
"""

from orrery.plans.contacts import are_apart
from orrery.plans.contacts import best_choice
from orrery.plans.contacts import check_contacts
from orrery.plans.contacts import check_gap
from orrery.plans.contacts import weight_of

MOST_CONTACTS = 100
MOST_EXCHANGES = 50
CRAFT = 0
SITE = 1
NUMBER = 5


def network(contacts, gap):
    """The tuple (choice, weight, bound) of the network of contacts."""
    check_contacts(contacts, MOST_CONTACTS)
    check_gap(gap)
    rows = [contact + (number,) for number, contact in enumerate(contacts)]
    fitting = [_fitting(row, rows, gap) for row in rows]
    best = _best_by(SITE, rows, fitting, gap)
    other = _best_by(CRAFT, rows, fitting, gap)
    if weight_of(other) > weight_of(best):
        best = other
    ordered = sorted(best, key=lambda row: (row[2], row[SITE]))
    bound = min(_bound_by(SITE, rows, gap), _bound_by(CRAFT, rows, gap))
    return ([row[:NUMBER] for row in ordered], weight_of(best), bound)


def go_together(first, second, gap):
    """True if two contacts go together, otherwise False."""
    if first[CRAFT] != second[CRAFT] and first[SITE] != second[SITE]:
        return True
    return are_apart(first, second, gap)


def _fitting(row, rows, gap):
    """The contacts that go together with a contact."""
    return sum([1 << other[NUMBER] for other in rows if go_together(row, other, gap)])


def _fits(fitting, row):
    return (fitting >> row[NUMBER]) & 1 == 1


def _groups(rows, part):
    """The lists of the contacts with the same site or craft, in the order of their first ones."""
    groups = {}
    for row in rows:
        groups.setdefault(row[part], []).append(row)
    return list(groups.values())


def _bound_by(part, rows, gap):
    return sum([weight_of(best_choice(group, gap)) for group in _groups(rows, part)])


def _best_by(part, rows, fitting, gap):
    """The network choice by groups, improved."""
    choice = []
    # The contacts that go together with all that were taken.
    left = _all_of(rows)
    for group in _groups(rows, part):
        taken = best_choice([row for row in group if _fits(left, row)], gap)
        choice.extend(taken)
        for row in taken:
            left &= fitting[row[NUMBER]]
    return _improved(choice, rows, fitting)


def _all_of(rows):
    return (1 << len(rows)) - 1


def _improved(choice, rows, fitting):
    for _ in range(MOST_EXCHANGES):
        better = _first_better(choice, rows, fitting)
        if better is None:
            return choice
        choice = better
    return choice


def _first_better(choice, rows, fitting):
    """The first exchange that weighs more than a choice, or None."""
    weight = weight_of(choice)
    for row in rows:
        exchanged = _exchange(choice, row, rows, fitting)
        if weight_of(exchanged) > weight:
            return exchanged
    return None


def _exchange(choice, row, rows, fitting):
    """The exchange of a contact into a choice."""
    exchanged = [kept for kept in choice if _fits(fitting[row[NUMBER]], kept)]
    exchanged.append(row)
    left = _all_of(rows)
    for there in exchanged:
        left &= fitting[there[NUMBER]]
    for other in rows:
        if _fits(left, other):
            exchanged.append(other)
            left &= fitting[other[NUMBER]]
    return exchanged
