"""Plans of contacts: the choice that weighs most, and prices that show it.

A contact is a tuple (craft, site, begin, end, weight).
"""

from orrery.data import is_tick
from orrery.errors import BadArgument

MOST_CONTACTS = 1000
MOST_PRICES = 1000
MOST_NUMBER = 999
MOST_WEIGHT = 10 ** 12
MOST_PRICE_TICK = 300000
MOST_PRICE = 10 ** 15


def plan(contacts, gap):
    """The tuple (choice, weight, prices) of the plan of contacts."""
    check_contacts(contacts, MOST_CONTACTS)
    check_gap(gap)
    found = _found(contacts, gap)
    return (_chosen(found), _heaviest(found), _prices(found))


def shows_best(contacts, gap, choice, prices):
    """True if a choice and prices are accepted for contacts, otherwise False."""
    check_contacts(contacts, MOST_CONTACTS)
    check_gap(gap)
    check_contacts(choice, MOST_CONTACTS)
    _check_prices(prices)
    if not _are_among(choice, contacts) or not _is_choice(choice, gap):
        return False
    if not all([_is_paid(contact, gap, prices) for contact in contacts]):
        return False
    return sum([price for _, price in prices]) <= weight_of(choice)


def check_contacts(contacts, most):
    """Raises an error if contacts are more than `most`, or one of them is out of its bounds."""
    if len(contacts) > most or not all([_is_contact(contact) for contact in contacts]):
        raise BadArgument("contacts")


def check_gap(gap):
    """Raises an error if a gap is no tick."""
    if not is_tick(gap):
        raise BadArgument("gap")


def _check_prices(prices):
    if len(prices) > MOST_PRICES:
        raise BadArgument("prices")
    for tick, price in prices:
        if not 0 <= tick <= MOST_PRICE_TICK or not 0 <= price <= MOST_PRICE:
            raise BadArgument("prices")


def _is_contact(contact):
    craft, site, begin, end, weight = contact
    if not 0 <= craft <= MOST_NUMBER or not 0 <= site <= MOST_NUMBER:
        return False
    return is_tick(begin) and is_tick(end) and begin <= end and 0 <= weight <= MOST_WEIGHT


def weight_of(contacts):
    """The sum of the weights of contacts."""
    return sum([contact[4] for contact in contacts])


def ready_at(contact, gap):
    """The tick at which a contact is ready."""
    return contact[3] + 1 + gap


def are_apart(first, second, gap):
    """True if two contacts are apart, otherwise False."""
    return ready_at(first, gap) <= second[2] or ready_at(second, gap) <= first[2]


def best_choice(contacts, gap):
    """The plan of contacts; behind its weight a contact may have more parts here."""
    return _chosen(_found(contacts, gap))


def _found(contacts, gap):
    """The choices found, as tuples (tick, weight, last contact, number of the choice before it).

    The number is counted from 0; that of the empty choice is -1.
    """
    found = []
    for contact in sorted(contacts, key=lambda row: row[3]):
        before = _last_ready(found, contact[2])
        weight = contact[4]
        if before >= 0:
            weight += found[before][1]
        if weight > _heaviest(found):
            found.append((ready_at(contact, gap), weight, contact, before))
    return found


def _last_ready(found, at):
    """The number of the last choice found whose tick is at most `at`, or -1."""
    number = len(found) - 1
    while number >= 0 and found[number][0] > at:
        number -= 1
    return number


def _heaviest(found):
    """The weight of the choice found last."""
    if not found:
        return 0
    return found[-1][1]


def _chosen(found):
    """The contacts of the choice found last, in order."""
    chosen = []
    number = len(found) - 1
    while number >= 0:
        _, _, contact, before = found[number]
        chosen.append(contact)
        number = before
    chosen.reverse()
    return chosen


def _prices(found):
    prices = []
    before = 0
    for tick, weight, _, _ in found:
        prices.append((tick, weight - before))
        before = weight
    return prices


def _are_among(some, contacts):
    """True if each contact of a list is in another list, otherwise False."""
    known = set(contacts)
    for contact in some:
        if contact not in known:
            return False
    return True


def _is_choice(contacts, gap):
    """True if each two of some contacts are apart, otherwise False."""
    ordered = sorted(contacts, key=lambda row: row[2])
    # If each one is ready at the begin of the next one, it is ready at those of all behind it, too.
    for first, second in zip(ordered, ordered[1:]):
        if ready_at(first, gap) > second[2]:
            return False
    return True


def _is_paid(contact, gap, prices):
    """True if the prices that meet the ticks of a contact are together at least its weight."""
    _, _, begin, _, weight = contact
    ready = ready_at(contact, gap)
    return sum([price for tick, price in prices if begin < tick <= ready]) >= weight
