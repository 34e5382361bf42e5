"""Points [36] and [37]: the checker of certificates."""

import random
import unittest

from orrery.data import Sighting
from orrery.papers.certificates import Certificate, certify
from orrery.papers.checker import accepted, refused_at
from orrery.ways.parts import State, state_has, state_inside

from worlds import STILL, a_body, a_craft, contents, cube, obeying_motion, orbiter, rows, seen_at


def along_x(low, high):
    return ((low, high), (0, 0), (0, 0))


def state(low, high, slow, fast):
    return State(along_x(low, high), along_x(slow, fast))


def wider(one, by):
    return State(tuple((low - by, high + by) for low, high in one.place),
                 tuple((low - by, high + by) for low, high in one.speed))


def glider(drift=0, sightings=()):
    """A craft so far out that the body of mu 1 pulls it by -1 along x."""
    return a_craft("a", 5, along_x(100, 110), along_x(2, 3), drift, [], sightings)


FIRST, SECOND, THIRD = state(100, 110, 2, 3), state(101, 112, 1, 2), state(101, 113, 0, 1)


class CheckerTest(unittest.TestCase):
    def check(self, craft, claims, wanted, fineness=0, body=a_body(1)):
        made = Certificate(body, fineness, craft, claims)
        self.assertEqual(refused_at(made), wanted)
        self.assertIs(accepted(made), wanted is None)
        self.assertEqual([rows(claim) for claim in made.claims], [rows(claim) for claim in claims])


class ToldCertificateTest(CheckerTest):
    def test_each_told_certificate_is_accepted(self):
        rng = random.Random(21)
        for fineness in (0, 1, 3):
            for seen in ((), (3, 5, 6), (4, 12)):
                motion = obeying_motion(rng, a_body(), orbiter(), 30)
                craft = orbiter(sightings=[seen_at(motion, 3, at, 3) for at in seen])
                for until in (3, 4, 14):
                    self.assertIsNone(refused_at(certify(contents(a_body(), [craft], 1, fineness), craft, until)))

    def test_the_numbers_of_the_steps(self):
        self.check(glider(), [[FIRST]], None)
        self.check(glider(), [[FIRST], [SECOND]], None)
        self.check(glider(), [[FIRST], [SECOND], [THIRD]], None)
        for narrow in (state(101, 110, 2, 3), state(100, 109, 2, 3), state(100, 110, 3, 3), state(100, 110, 2, 2)):
            self.check(glider(), [[narrow], [SECOND]], 5)
        for narrow in (state(102, 112, 1, 2), state(101, 111, 1, 2), state(101, 112, 2, 2), state(101, 112, 1, 1)):
            self.check(glider(), [[FIRST], [narrow], [THIRD]], 6)
        for narrow in (state(102, 113, 0, 1), state(101, 112, 0, 1), state(101, 113, 1, 1), state(101, 113, 0, 0)):
            self.check(glider(), [[FIRST], [SECOND], [narrow]], 7)


class OtherClaimsTest(CheckerTest):
    def setUp(self):
        motion = obeying_motion(random.Random(8), a_body(), orbiter(), 30)
        self.craft = orbiter(sightings=[seen_at(motion, 3, at, 3) for at in (3, 6)])
        self.told = certify(contents(a_body(), [self.craft], 1, 3), self.craft, 9).claims

    def check_told(self, claims, wanted):
        self.check(self.craft, claims, wanted, 3, a_body())

    def test_wider(self):
        self.check_told([*self.told[:-1], [wider(one, 5) for one in self.told[-1]]], None)
        self.check_told([*self.told[:-1], [wider(one, -1) for one in self.told[-1]]], 9)
        # Ahead of other claims, a wider one leads beyond them.
        self.check_told([[wider(one, 1) for one in self.told[0]], *self.told[1:]], 4)
        hulls = [[State(cube(10000, 0, 0, 5000), cube(0, 0, 0, 2000))],
                 [State(cube(10000, 0, 0, 7200), cube(0, 0, 0, 2200))]]
        self.check(orbiter(), hulls, None, 2, a_body())

    def test_another_order_and_more_states(self):
        self.check_told([list(reversed(claim)) for claim in self.told], None)
        self.check_told([claim + claim for claim in self.told], None)
        more = [*self.told[:-1], [State(STILL, STILL), *self.told[-1], wider(self.told[-1][0], 900)]]
        self.check_told(more, None)

    def test_a_state_too_many_leads_on(self):
        more = [[*self.told[0], State(cube(9000, 9, 9, 0), STILL)], *self.told[1:]]
        self.check_told(more, 4)

    def test_a_state_too_few(self):
        missed = []
        for number in range(len(self.told)):
            claims = [list(claim) for claim in self.told]
            missing = claims[number].pop(0)
            still = any(state_inside(missing, one) for one in claims[number])
            self.check_told(claims, None if still else self.craft.start + number)
            missed.append(not still)
        self.assertGreater(sum(missed), 2)

    def test_within_several_states_but_inside_none(self):
        halves = [state(100, 105, 2, 3), state(106, 110, 2, 3)]
        self.check(glider(), [halves], 5)
        self.check(glider(), [halves], None, 1)
        self.check(glider(), [halves], 5, 0)
        quarters = [state(100, 102, 2, 3), state(103, 105, 2, 3), state(106, 108, 2, 3), state(109, 110, 2, 3)]
        self.check(glider(), [halves], None, 2)
        self.check(glider(), [quarters], None, 2)
        self.check(glider(), [quarters], 5, 1)

    def test_the_place_and_the_speed_have_to_be_inside_the_same_state(self):
        self.check(glider(), [[state(100, 110, 2, 2), state(100, 109, 2, 3)]], 5)

    def test_the_first_refused_tick_of_several(self):
        small = state(104, 104, 0, 0)
        self.check(glider(), [[small], [small], [small]], 5)
        self.check(glider(), [[FIRST], [small], [small]], 6)
        self.check(glider(), [[FIRST], [SECOND], [small]], 7)
        self.check(glider(), [[FIRST], [SECOND], [THIRD], [small]], 8)
        self.check(glider(), [[small], [SECOND], [THIRD]], 5)
        self.check(glider(), [[FIRST], [small], [THIRD]], 6)

    def test_the_burns_of_the_craft_count(self):
        claims = [list(claim) for claim in certify(contents(a_body(), []), orbiter(), 9).claims]
        self.check(orbiter(), claims, None, 0, a_body())
        bare = orbiter()
        self.check(a_craft("a", 3, bare.place, bare.speed, 1), claims, 6, 0, a_body())

    def test_the_drift_of_the_craft_counts(self):
        wide = ((98, 115), (-3, 3), (-3, 3))
        claims = [[FIRST], [State(wide, ((-2, 5), (-3, 3), (-3, 3)))]]
        self.check(glider(drift=3), claims, None)
        self.check(glider(drift=4), claims, 6)
        self.check(glider(drift=1), [[FIRST], [SECOND]], 6)


class LostTest(CheckerTest):
    def test_a_state_that_is_lost_in_its_step(self):
        everywhere = State(cube(0, 0, 0, 10 ** 40), cube(0, 0, 0, 10 ** 40))
        centre = state(-1, 1, 0, 0)
        self.check(glider(), [[FIRST, centre]], None)
        self.check(glider(), [[FIRST, centre], [everywhere]], 6)
        self.check(glider(), [[FIRST], [everywhere], [everywhere]], 7)
        self.check(glider(), [[FIRST], [everywhere]], None)

    def test_a_state_beyond_the_limit(self):
        everywhere = State(cube(0, 0, 0, 10 ** 50), cube(0, 0, 0, 10 ** 50))
        for far, wanted in [(10 ** 40, 6), (10 ** 40 - 3, 6), (10 ** 40 - 4, None)]:
            self.check(glider(), [[FIRST, state(far, far, 5, 5)], [everywhere]], wanted)

    def test_lost_ahead_of_a_sighting_that_would_drop_it(self):
        craft = glider(sightings=[Sighting(6, along_x(100, 113))])
        self.check(craft, [[FIRST, state(-1, 1, 0, 0)], [SECOND]], 6)


class SightingTest(CheckerTest):
    def test_at_the_start(self):
        craft = glider(sightings=[Sighting(5, along_x(90, 103))])
        self.check(craft, [[state(100, 103, 2, 3)]], None)
        self.check(craft, [[state(100, 102, 2, 3)]], 5)
        self.check(craft, [[state(100, 103, 3, 3)]], 5)
        # By fineness 1 the part from 106 on is dropped.
        self.check(craft, [[state(100, 103, 2, 3)]], None, 1)
        self.check(craft, [[state(106, 110, 2, 3)]], 5, 1)

    def test_later(self):
        craft = glider(sightings=[Sighting(6, along_x(90, 104))])
        self.check(craft, [[FIRST], [state(101, 104, 1, 2)]], None)
        self.check(craft, [[FIRST], [state(101, 103, 1, 2)]], 6)
        # The claims themselves are not cut: what is claimed for tick 6 leads on whole.
        self.check(craft, [[FIRST], [SECOND], [state(101, 105, 0, 1)]], 7)
        self.check(craft, [[FIRST], [state(101, 104, 1, 2)], [state(101, 105, 0, 1)]], None)

    def test_at_ticks_that_are_not_claimed(self):
        craft = glider(sightings=[Sighting(8, along_x(0, 0))])
        self.check(craft, [[FIRST], [SECOND], [THIRD]], None)

    def test_states_that_are_dropped(self):
        sightings = [Sighting(6, along_x(90, 104))]
        halves = [state(100, 105, 2, 3), state(106, 110, 2, 3)]
        self.check(glider(0, sightings), [halves, [state(101, 104, 1, 2)]], None, 1)
        far = state(500, 510, 2, 3)
        self.check(glider(0, sightings), [[*halves, far], [state(101, 104, 1, 2)]], None, 1)
        self.check(glider(), [[*halves, far], [SECOND]], 6, 1)
        self.check(glider(), [halves, [SECOND]], None, 1)

    def test_empty_claims(self):
        self.check(glider(), [[]], 5)
        self.check(glider(), [[FIRST], []], 6)
        self.check(glider(sightings=[Sighting(5, along_x(0, 99))]), [[]], None)
        self.check(glider(sightings=[Sighting(5, along_x(0, 99))]), [[], []], None)
        self.check(glider(sightings=[Sighting(5, along_x(0, 100))]), [[]], 5)
        gone = glider(sightings=[Sighting(6, along_x(200, 300))])
        self.check(gone, [[FIRST], []], None)
        self.check(gone, [[FIRST], [], []], None)
        self.check(gone, [[FIRST], [], [FIRST]], None)
        self.check(gone, [[FIRST], [FIRST], []], 7)

    def test_a_certificate_without_claims(self):
        self.check(glider(), [], 5)
        self.check(glider(sightings=[Sighting(5, along_x(0, 99))]), [], None)


class SureTest(CheckerTest):
    def test_motions_are_in_what_accepted_certificates_claim(self):
        rng = random.Random(31)
        taken = 0
        for _ in range(60):
            motion = obeying_motion(rng, a_body(), orbiter(), 20)
            craft = orbiter(sightings=[seen_at(motion, 3, at, 2) for at in (3, 6, 9)])
            told = certify(contents(a_body(), [craft], 1, 2), craft, 12)
            claims = [[wider(one, rng.choice([0, 0, 0, 1, -1])) for one in claim] for claim in told.claims]
            known = refused_at(Certificate(a_body(), 2, craft, claims))
            held = claims if known is None else claims[:known - 3]
            for number, claim in enumerate(held):
                taken += 1
                self.assertTrue(any(state_has(one, *motion[number]) for one in claim))
            self.assertIsNone(refused_at(Certificate(a_body(), 2, craft, told.claims)))
        self.assertGreater(taken, 10)


if __name__ == "__main__":
    unittest.main()
