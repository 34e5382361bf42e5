"""Points [62] to [64]: networks of contacts."""

import itertools
import random
import unittest

from orrery.errors import BadArgument
from orrery.plans.contacts import plan
from orrery.plans.networks import go_together, network

from test_contacts import BAD_CONTACTS, GOOD_CONTACTS, apart, some_contacts


def together(first, second, gap):
    return (first[0] != second[0] and first[1] != second[1]) or apart(first, second, gap)


def weight_of(contacts):
    return sum(row[4] for row in contacts)


def slow_exchange(choice, row, rows, gap):
    there = [kept for kept in choice if together(kept, row, gap)] + [row]
    for other in rows:
        if all(together(other, one, gap) for one in there):
            there.append(other)
    return there


def slow_improved(choice, rows, gap, most=50):
    for _ in range(most):
        for row in rows:
            exchanged = slow_exchange(choice, row, rows, gap)
            if weight_of(exchanged) > weight_of(choice):
                choice = exchanged
                break
        else:
            return choice
    return choice


def slow_groups(rows, part):
    return [[row for row in rows if row[part] == number] for number in dict.fromkeys(row[part] for row in rows)]


def slow_by_groups(rows, part, gap):
    choice = []
    for group in slow_groups(rows, part):
        free = [row for row in group if all(together(row, one, gap) for one in choice)]
        choice = choice + plan(free, gap)[0]
    return choice


def slow_network(rows, gap):
    """The network in the words of the points."""
    told = [slow_improved(slow_by_groups(rows, part, gap), rows, gap) for part in (1, 0)]
    best = told[1] if weight_of(told[1]) > weight_of(told[0]) else told[0]
    bound = min(sum(plan(group, gap)[1] for group in slow_groups(rows, part)) for part in (0, 1))
    return (sorted(best, key=lambda row: (row[2], row[1])), weight_of(best), bound)


def greatest_weight(rows, gap):
    best = 0
    for bits in range(1 << len(rows)):
        chosen = [row for k, row in enumerate(rows) if bits >> k & 1]
        if all(together(a, b, gap) for a, b in itertools.combinations(chosen, 2)):
            best = max(best, weight_of(chosen))
    return best


class GoTogetherTest(unittest.TestCase):
    def test_crafts_and_sites(self):
        first = (1, 1, 0, 9, 5)
        for second, apart_alone in [((2, 2, 0, 9, 5), True), ((1, 2, 0, 9, 5), False), ((2, 1, 0, 9, 5), False),
                                    ((1, 1, 0, 9, 5), False)]:
            self.assertEqual(go_together(first, second, 0), apart_alone)
            self.assertEqual(go_together(second, first, 0), apart_alone)
            self.assertTrue(go_together(first, second[:2] + (10, 12, 5), 0))
            self.assertEqual(go_together(first, second[:2] + (10, 12, 5), 1), apart_alone)
            self.assertTrue(go_together(second[:2] + (11, 12, 5), first, 1))

    def test_a_contact_with_itself(self):
        self.assertFalse(go_together((1, 1, 5, 5, 1), (1, 1, 5, 5, 1), 0))


class NetworkTest(unittest.TestCase):
    def test_none_and_one(self):
        self.assertEqual(network([], 0), ([], 0, 0))
        self.assertEqual(network([(1, 2, 3, 4, 5)], 9), ([(1, 2, 3, 4, 5)], 5, 5))

    def test_the_same_craft(self):
        rows = [(1, 1, 0, 5, 3), (1, 2, 5, 9, 4), (1, 3, 6, 9, 2)]
        # The last two are of one craft; the first and the last one are apart.
        self.assertEqual(network(rows, 0), ([rows[0], rows[2]], 5, 5))
        self.assertEqual(network(rows, 1), ([rows[1]], 4, 4))

    def test_the_same_site(self):
        rows = [(1, 1, 0, 5, 3), (2, 1, 5, 9, 4), (3, 1, 6, 9, 2)]
        self.assertEqual(network(rows, 0), ([rows[0], rows[2]], 5, 5))
        self.assertEqual(network(rows, 1), ([rows[1]], 4, 4))

    def test_the_same_craft_and_site(self):
        rows = [(1, 1, 0, 5, 3), (1, 1, 5, 9, 4), (1, 1, 6, 9, 2)]
        self.assertEqual(network(rows, 0), ([rows[0], rows[2]], 5, 5))

    def test_others_at_the_same_ticks(self):
        rows = [(1, 1, 0, 9, 3), (2, 2, 0, 9, 4), (3, 3, 0, 9, 2)]
        self.assertEqual(network(rows, 0), (rows, 9, 9))
        self.assertEqual(network(rows, 100000), (rows, 9, 9))

    def test_what_is_told_is_sorted_by_begin_then_site(self):
        rows = [(1, 5, 7, 9, 1), (2, 3, 7, 9, 1), (3, 4, 0, 9, 1), (4, 2, 8, 8, 1)]
        self.assertEqual(network(rows, 0)[0], [rows[2], rows[1], rows[0], rows[3]])

    def test_the_greedy_choice_is_improved(self):
        # By sites the first group takes what is in the way of two heavier ones.
        rows = [(1, 1, 0, 9, 5), (1, 2, 0, 4, 4), (1, 3, 5, 9, 4)]
        self.assertEqual(network(rows, 0), ([rows[1], rows[2]], 8, 8))

    def test_an_improvement_that_makes_another_one_possible(self):
        found = 0
        rng = random.Random(13)
        for _ in range(400):
            rows = some_contacts(rng, 12, 12)
            told = slow_network(rows, 1)
            self.assertEqual(network(rows, 1), told)
            once = max(weight_of(slow_improved(slow_by_groups(rows, part, 1), rows, 1, 1)) for part in (0, 1))
            found += told[1] > once
        self.assertGreater(found, 0)

    def test_an_exchange_of_what_is_there_already(self):
        # Nothing else is gained here; the contact only goes behind the kept ones.
        rows = [(1, 1, 0, 3, 2), (2, 2, 0, 3, 2)]
        self.assertEqual(slow_exchange(rows, rows[0], rows, 0), [rows[1], rows[0]])
        self.assertEqual(network(rows, 0), (rows, 4, 4))
        # Of two contacts with the same begin and site the order tells.
        twice = [(1, 1, 0, 3, 2), (1, 1, 0, 3, 2)]
        self.assertEqual(network(twice, 0), (twice[:1], 2, 2))

    def test_weights_of_none_come_in_by_exchanges_alone(self):
        rows = [(1, 1, 0, 3, 0), (2, 2, 0, 3, 2)]
        self.assertEqual(network(rows, 0), ([rows[1]], 2, 2))
        self.assertEqual(network(rows, 0), slow_network(rows, 0))

    def test_the_choice_by_crafts_where_it_weighs_more(self):
        rng = random.Random(14)
        by_crafts = 0
        equal = 0
        for _ in range(500):
            rows = some_contacts(rng, 10, 12)
            told = [sorted(slow_improved(slow_by_groups(rows, part, 0), rows, 0), key=lambda row: (row[2], row[1]))
                    for part in (1, 0)]
            if weight_of(told[1]) > weight_of(told[0]):
                by_crafts += 1
                self.assertEqual(network(rows, 0)[0], told[1])
            else:
                equal += weight_of(told[1]) == weight_of(told[0]) and told[0] != told[1]
                self.assertEqual(network(rows, 0)[0], told[0])
        self.assertGreater(by_crafts, 0)
        self.assertGreater(equal, 0)

    def test_in_the_words_of_the_points(self):
        rng = random.Random(15)
        for number in range(300):
            rows = some_contacts(rng, rng.randint(0, 25), rng.choice([5, 15, 40]))
            rows += [rng.choice(rows) for _ in range(number % 3) if rows]
            gap = rng.choice([0, 1, 6])
            kept = list(rows)
            self.assertEqual(network(rows, gap), slow_network(rows, gap))
            self.assertEqual(rows, kept)

    def test_the_bound(self):
        rng = random.Random(16)
        below = 0
        for _ in range(80):
            rows = some_contacts(rng, rng.randint(0, 9), 12)
            choice, weight, bound = network(rows, 1)
            self.assertTrue(all(together(a, b, 1) for a, b in itertools.combinations(choice, 2)))
            self.assertEqual(weight_of(choice), weight)
            self.assertTrue(weight <= greatest_weight(rows, 1) <= bound)
            below += weight < bound
        self.assertGreater(below, 0)
        # By sites 3 + 4, by crafts 4 alone.
        self.assertEqual(network([(1, 1, 0, 5, 3), (1, 2, 0, 5, 4)], 0)[2], 4)

    def test_groups_come_in_the_order_of_their_first_contacts(self):
        # All are of craft 1: the group that is looked at first has its way; nothing is gained behind it.
        rows = [(1, 7, 0, 5, 3), (1, 2, 0, 5, 3)]
        self.assertEqual(network(rows, 0)[0], [rows[0]])
        self.assertEqual(network(rows[::-1], 0)[0], [rows[1]])
        rows = [(7, 1, 0, 5, 3), (2, 1, 0, 5, 3)]
        self.assertEqual(network(rows, 0)[0], [rows[0]])

    def test_a_hundred(self):
        rng = random.Random(17)
        rows = []
        for _ in range(100):
            begin = rng.randint(0, 300)
            rows.append((rng.randint(0, 9), rng.randint(0, 9), begin, begin + rng.randint(0, 60), rng.randint(0, 99)))
        told = network(rows, 3)
        self.assertEqual(told, slow_network(rows, 3))
        self.assertGreaterEqual(told[2], told[1])


class MostExchangesTest(unittest.TestCase):
    # Ten exchanges improve this, one after the other, whichever groups come first.
    SLOW = [
        (4, 4, 9, 11, 3), (3, 0, 8, 9, 10), (2, 3, 7, 10, 58), (0, 0, 7, 9, 12), (0, 4, 8, 14, 9), (0, 0, 5, 13, 19),
        (2, 4, 10, 14, 33), (4, 2, 4, 7, 49), (0, 4, 9, 9, 26), (3, 3, 4, 11, 39), (1, 4, 7, 14, 50),
    ]

    def uncapped(self, rows):
        return max(weight_of(slow_improved(slow_by_groups(rows, part, 0), rows, 0, 10 ** 6)) for part in (1, 0))

    def test_fifty_exchanges_are_made_and_no_more(self):
        for copies, more in [(1, False), (5, False), (6, True)]:
            rows = [(craft, site, begin + 20 * k, end + 20 * k, weight)
                    for k in range(copies) for craft, site, begin, end, weight in self.SLOW]
            told = network(rows, 0)
            self.assertEqual(told, slow_network(rows, 0))
            self.assertEqual(self.uncapped(rows) > told[1], more)


class ErrorsTest(unittest.TestCase):
    def refused(self, name, *arguments):
        with self.assertRaises(BadArgument) as caught:
            network(*arguments)
        self.assertEqual(caught.exception.name, name)

    def test_contacts(self):
        for row in BAD_CONTACTS:
            self.refused("contacts", [(0, 0, 0, 0, 0), row], 0)
        for row in GOOD_CONTACTS:
            self.assertEqual(network([row], 0)[1:], (row[4], row[4]))

    def test_numbers_of_contacts(self):
        many = [(0, 0, k, k, 1) for k in range(101)]
        self.assertEqual(network(many[:100], 0), (many[:100], 100, 100))
        self.refused("contacts", many, 0)

    def test_gaps(self):
        self.refused("gap", [], -1)
        self.refused("gap", [], 100001)
        self.assertEqual(network([(0, 0, 0, 0, 1)], 100000)[1], 1)

    def test_the_order(self):
        self.refused("contacts", BAD_CONTACTS[:1], -1)
        self.refused("contacts", [(0, 0, 0, 0, 1)] * 101, -1)


if __name__ == "__main__":
    unittest.main()
