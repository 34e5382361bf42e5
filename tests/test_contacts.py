"""Points [58] to [61]: plans of contacts, their prices, and whether choices and prices are accepted."""

import itertools
import random
import unittest

from orrery.errors import BadArgument
from orrery.plans.contacts import plan, shows_best


def contact(begin, end, weight, craft=0, site=0):
    return (craft, site, begin, end, weight)


def apart(first, second, gap):
    return first[3] + 1 + gap <= second[2] or second[3] + 1 + gap <= first[2]


def is_choice(contacts, gap):
    return all(apart(a, b, gap) for a, b in itertools.combinations(contacts, 2))


def greatest_weight(contacts, gap):
    """The greatest weight of all choices, each one gone through."""
    best = 0
    for bits in range(1 << len(contacts)):
        chosen = [row for k, row in enumerate(contacts) if bits >> k & 1]
        if is_choice(chosen, gap):
            best = max(best, sum(row[4] for row in chosen))
    return best


def slow_plan(contacts, gap):
    """The plan in the words of point [59]."""
    found = []
    for row in sorted(contacts, key=lambda row: row[3]):
        base = ([], 0)
        for tick, choice, weight in found:
            if tick <= row[2]:
                base = (choice, weight)
        choice, weight = base[0] + [row], base[1] + row[4]
        if weight > (found[-1][2] if found else 0):
            found.append((row[3] + 1 + gap, choice, weight))
    prices = []
    for number, (tick, _, weight) in enumerate(found):
        prices.append((tick, weight - (found[number - 1][2] if number else 0)))
    return (found[-1][1] if found else [], found[-1][2] if found else 0, prices)


def some_contacts(rng, many, last=30, most=9):
    told = []
    for _ in range(many):
        begin = rng.randint(0, last)
        told.append((rng.randint(0, 3), rng.randint(0, 3), begin, begin + rng.randint(0, 8), rng.randint(0, most)))
    return told


class PlanTest(unittest.TestCase):
    def test_none_and_one(self):
        self.assertEqual(plan([], 0), ([], 0, []))
        self.assertEqual(plan([contact(3, 5, 7)], 0), ([contact(3, 5, 7)], 7, [(6, 7)]))
        self.assertEqual(plan([contact(3, 5, 7)], 4), ([contact(3, 5, 7)], 7, [(10, 7)]))
        self.assertEqual(plan([contact(3, 5, 0)], 0), ([], 0, []))

    def test_contacts_that_touch(self):
        first, second = contact(0, 4, 2), contact(5, 9, 3)
        self.assertEqual(plan([first, second], 0), ([first, second], 5, [(5, 2), (10, 3)]))
        self.assertEqual(plan([second, first], 0), ([first, second], 5, [(5, 2), (10, 3)]))
        # With a gap the second one begins too early, by one tick.
        self.assertEqual(plan([first, second], 1), ([second], 3, [(6, 2), (11, 1)]))
        late = contact(6, 9, 3)
        self.assertEqual(plan([first, late], 1), ([first, late], 5, [(6, 2), (11, 3)]))

    def test_a_common_tick(self):
        first, second = contact(0, 5, 3), contact(5, 9, 3)
        self.assertEqual(plan([first, second], 0), ([first], 3, [(6, 3)]))
        self.assertEqual(plan([second, first], 0), ([first], 3, [(6, 3)]))

    def test_the_same_end(self):
        # Of equal weights the first one of the list is found, whichever begins earlier.
        short, long = contact(5, 9, 3, 1), contact(0, 9, 3, 2)
        self.assertEqual(plan([short, long], 0)[0], [short])
        self.assertEqual(plan([long, short], 0)[0], [long])
        early = contact(0, 4, 1)
        self.assertEqual(plan([short, long, early], 0), ([early, short], 4, [(5, 1), (10, 3)]))
        heavier = contact(2, 9, 5, 3)
        self.assertEqual(plan([short, long, heavier], 0), ([heavier], 5, [(10, 3), (10, 2)]))

    def test_weights_of_none(self):
        none, some = contact(0, 4, 0), contact(5, 9, 2)
        self.assertEqual(plan([none, some, contact(20, 21, 0)], 0), ([some], 2, [(10, 2)]))

    def test_a_contact_listed_twice(self):
        twice = contact(0, 4, 2)
        self.assertEqual(plan([twice, twice], 0), ([twice], 2, [(5, 2)]))

    def test_only_the_ticks_count_not_the_crafts(self):
        first, second = contact(0, 5, 2, 1, 1), contact(3, 9, 3, 2, 2)
        self.assertEqual(plan([first, second], 0), ([second], 3, [(6, 2), (10, 1)]))

    def test_a_light_one_between_is_taken_along(self):
        rows = [contact(0, 9, 10), contact(0, 3, 4), contact(4, 9, 5), contact(10, 12, 1)]
        self.assertEqual(plan(rows, 0), ([rows[0], rows[3]], 11, [(4, 4), (10, 6), (13, 1)]))

    def test_in_the_words_of_the_point(self):
        rng = random.Random(9)
        for _ in range(400):
            rows = some_contacts(rng, rng.randint(0, 25))
            rows += [rng.choice(rows) for _ in range(rng.randint(0, 2)) if rows]
            gap = rng.choice([0, 0, 1, 2, 5, 40])
            kept = list(rows)
            self.assertEqual(plan(rows, gap), slow_plan(rows, gap))
            self.assertEqual(rows, kept)

    def test_no_choice_weighs_more(self):
        rng = random.Random(10)
        for _ in range(60):
            rows = some_contacts(rng, rng.randint(0, 9), 20)
            gap = rng.choice([0, 1, 3])
            choice, weight, prices = plan(rows, gap)
            self.assertTrue(is_choice(choice, gap))
            self.assertEqual(sum(row[4] for row in choice), weight)
            self.assertEqual(weight, greatest_weight(rows, gap))
            self.assertEqual(sum(price for _, price in prices), weight)

    def test_a_thousand(self):
        rows = [contact(10 * k, 10 * k + 9, 10 ** 12) for k in range(1000)]
        choice, weight, prices = plan(rows, 0)
        self.assertEqual((choice, weight, prices[-1]), (rows, 10 ** 15, (10000, 10 ** 12)))
        self.assertTrue(shows_best(rows, 0, choice, prices))
        crowd = [contact(k, 50000 + k, 10 ** 12 - k) for k in range(1000)]
        self.assertEqual(plan(crowd, 100000)[0], [crowd[0]])
        self.assertTrue(shows_best(crowd, 100000, [crowd[0]], plan(crowd, 100000)[2]))

    def test_the_lists_are_new(self):
        rows = [contact(0, 4, 2)]
        told = plan(rows, 0)
        told[0].append(1)
        told[2].append(1)
        self.assertEqual(plan(rows, 0), ([contact(0, 4, 2)], 2, [(5, 2)]))
        self.assertEqual(rows, [contact(0, 4, 2)])


class ShowsBestTest(unittest.TestCase):
    def setUp(self):
        self.rows = [contact(0, 4, 2), contact(3, 7, 4), contact(8, 9, 3)]
        self.choice, self.weight, self.prices = plan(self.rows, 0)

    def test_the_plan_is_accepted(self):
        self.assertEqual((self.choice, self.prices), (self.rows[1:], [(5, 2), (8, 2), (10, 3)]))
        self.assertIs(shows_best(self.rows, 0, self.choice, self.prices), True)
        self.assertTrue(shows_best(self.rows, 0, self.choice[::-1], self.prices[::-1]))
        self.assertTrue(shows_best([], 0, [], []))
        rng = random.Random(11)
        for _ in range(200):
            rows = some_contacts(rng, rng.randint(0, 15))
            gap = rng.choice([0, 1, 7])
            choice, _, prices = plan(rows, gap)
            self.assertTrue(shows_best(rows, gap, choice, prices))

    def test_a_contact_that_is_not_listed(self):
        other = contact(3, 7, 4, 1)
        self.assertIs(shows_best(self.rows, 0, [other, self.rows[2]], self.prices), False)
        self.assertTrue(shows_best(self.rows + [other], 0, [other, self.rows[2]], self.prices))

    def test_a_list_that_is_no_choice(self):
        self.assertFalse(shows_best(self.rows, 0, self.rows, self.prices))
        self.assertFalse(shows_best(self.rows, 1, self.choice, plan(self.rows, 0)[2]))
        # Together they would weigh enough; but the first two have ticks in common.
        crowd = [contact(0, 5, 2), contact(5, 9, 2)]
        self.assertTrue(shows_best(crowd, 0, crowd[:1], [(6, 2)]))
        self.assertFalse(shows_best(crowd, 0, crowd, [(6, 2)]))

    def test_the_same_contact_twice(self):
        row = contact(0, 4, 2)
        self.assertFalse(shows_best([row], 0, [row, row], [(5, 2)]))
        self.assertFalse(shows_best([row, row], 0, [row, row], [(5, 2)]))
        self.assertTrue(shows_best([row, row], 0, [row], [(5, 2)]))

    def test_a_contact_that_is_not_paid(self):
        self.assertFalse(shows_best(self.rows, 0, self.choice, [(5, 2), (8, 1), (10, 3)]))
        self.assertFalse(shows_best(self.rows, 0, self.choice, [(5, 2), (8, 2)]))
        self.assertFalse(shows_best(self.rows, 0, [], []))
        self.assertTrue(shows_best([contact(0, 4, 0)], 0, [], []))

    def test_which_ticks_pay(self):
        # The ticks above the begin, 3, up to the one at which it is ready, 9 + 1 + 2.
        row = [contact(3, 9, 5)]
        for tick, accepted in [(0, False), (3, False), (4, True), (11, True), (12, True), (13, False)]:
            self.assertIs(shows_best(row, 2, row, [(tick, 5)]), accepted, tick)
        self.assertTrue(shows_best(row, 2, row, [(12, 3), (4, 2)]))
        self.assertFalse(shows_best(row, 2, row, [(13, 3), (4, 2)]))

    def test_prices_that_are_too_high(self):
        self.assertFalse(shows_best(self.rows, 0, self.choice, self.prices + [(10, 1)]))
        self.assertFalse(shows_best(self.rows, 0, self.choice[:1], self.prices))
        self.assertTrue(shows_best(self.rows, 0, self.choice, self.prices + [(10, 0)]))
        # A tick that no contact takes costs, too.
        self.assertFalse(shows_best(self.rows, 0, self.choice, self.prices + [(300000, 1)]))

    def test_what_is_accepted_weighs_most(self):
        rng = random.Random(12)
        accepted = 0
        for _ in range(3000):
            rows = some_contacts(rng, rng.randint(1, 4), 9, 3)
            gap = rng.choice([0, 2])
            choice = [rng.choice(rows) for _ in range(rng.randint(0, 2))]
            prices = [(rng.randint(0, 18), rng.randint(0, 3)) for _ in range(rng.randint(0, 3))]
            if rng.random() < 0.5:
                choice = plan(rows, gap)[0]
            demands = [
                all(row in rows for row in choice), is_choice(choice, gap),
                all(sum(p for t, p in prices if b < t <= e + 1 + gap) >= w for _, _, b, e, w in rows),
                sum(price for _, price in prices) <= sum(row[4] for row in choice),
            ]
            told = shows_best(rows, gap, choice, prices)
            self.assertEqual(told, all(demands))
            if told:
                accepted += 1
                self.assertEqual(sum(row[4] for row in choice), greatest_weight(rows, gap))
        self.assertGreater(accepted, 20)

    def test_what_is_handed_in_stays(self):
        rows, choice, prices = list(self.rows[::-1]), list(self.choice[::-1]), list(self.prices[::-1])
        shows_best(rows, 0, choice, prices)
        self.assertEqual((rows, choice, prices), (self.rows[::-1], self.choice[::-1], self.prices[::-1]))


BAD_CONTACTS = [
    (-1, 0, 0, 0, 0), (1000, 0, 0, 0, 0), (0, -1, 0, 0, 0), (0, 1000, 0, 0, 0), (0, 0, -1, 0, 0), (0, 0, 5, 4, 0),
    (0, 0, 0, 100001, 0), (0, 0, 100001, 100001, 0), (0, 0, 0, 0, -1), (0, 0, 0, 0, 10 ** 12 + 1),
]
GOOD_CONTACTS = [(999, 999, 0, 0, 0), (0, 0, 100000, 100000, 10 ** 12), (0, 0, 0, 100000, 0), (0, 999, 5, 5, 1)]


class ErrorsTest(unittest.TestCase):
    def refused(self, name, call, *arguments):
        with self.assertRaises(BadArgument) as caught:
            call(*arguments)
        self.assertEqual(caught.exception.name, name)

    def test_contacts(self):
        for row in BAD_CONTACTS:
            self.refused("contacts", plan, [contact(0, 1, 1), row], 0)
            self.refused("contacts", shows_best, [row], 0, [], [])
            self.refused("contacts", shows_best, [], 0, [row], [])
        for row in GOOD_CONTACTS:
            self.assertEqual(plan([row], 0)[1], row[4])
            self.assertIs(shows_best([row], 0, [row], [(row[3] + 1, row[4])]), True)

    def test_numbers_of_contacts(self):
        many = [contact(0, 1, 1)] * 1000
        self.assertEqual(plan(many, 0)[1], 1)
        self.assertFalse(shows_best(many, 0, many, []))
        self.refused("contacts", plan, many + many[:1], 0)
        self.refused("contacts", shows_best, many + many[:1], 0, [], [])
        self.refused("contacts", shows_best, many, 0, many + many[:1], [])

    def test_gaps(self):
        for gap in (-1, 100001):
            self.refused("gap", plan, [], gap)
            self.refused("gap", shows_best, [], gap, [], [])
        self.assertEqual(plan([contact(0, 1, 1)], 100000), ([contact(0, 1, 1)], 1, [(100002, 1)]))

    def test_prices(self):
        row = contact(100000, 100000, 1)
        self.assertTrue(shows_best([row], 100000, [row], [(200001, 1), (300000, 0), (0, 0)]))
        self.assertFalse(shows_best([row], 0, [row], [(0, 10 ** 15)]))
        for price in [(-1, 0), (300001, 0), (0, -1), (0, 10 ** 15 + 1)]:
            self.refused("prices", shows_best, [row], 0, [], [(5, 5), price])
        self.assertTrue(shows_best([], 0, [], [(0, 0)] * 1000))
        self.refused("prices", shows_best, [], 0, [], [(0, 0)] * 1001)

    def test_the_order(self):
        bad = BAD_CONTACTS[:1]
        self.refused("contacts", plan, bad, -1)
        self.refused("contacts", shows_best, bad, -1, bad, [(-1, 0)])
        self.refused("gap", shows_best, [], -1, bad, [(-1, 0)])
        self.refused("contacts", shows_best, [], 0, bad, [(-1, 0)])
        # An error stands ahead of a demand that is not met.
        self.refused("prices", shows_best, [], 0, [contact(0, 1, 1)], [(-1, 0)])


if __name__ == "__main__":
    unittest.main()
