"""[43], and [8]: senders side by side."""

import itertools
import unittest
from fractions import Fraction

from neverheaps.errors import NoName, TooMany
from neverheaps.forms import is_ring, is_sender, is_tariff
from neverheaps.heights import greatest_mean
from neverheaps.held import holds
from neverheaps.parts import breaker_of, bringer_of
from neverheaps.rings import rings_of
from neverheaps.side import (
    arrows_at, beside, greatest_rate, holds_apart, is_tariff_beside, least_share, places_at, tariff_beside,
)
from neverheaps.tariffs import is_fair
from tests.samples import BARE, FULL, MANY, SENDER, any_values, asked, circle, otherwise, random_sender, random_works, seeded
from tests.test_held import weak_sender

HAND = (("a",), ("h",), (((1,), (0,), "h"),))
TWO = (("a", "b"), ("h", "k"), (((1, 0), (0, 1), "h"), ((0, 2), (0, 0), "k"), ((1, 1), (0, 0), None)))
# One thing in two beats, and one hand in two.
EVERY = (2, ((0, 1, (1,), (0,)), (1, 0, (0,), (0,))))
TURN = (2, ((0, 1, (0,), (1,)), (1, 0, (0,), (0,))))
ALWAYS = (1, ((0, 0, (0,), (1,)),))


def slow_beside(senders):
    places = list(itertools.product(*[range(sender[0]) for sender in senders]))
    arrows = []
    for row in itertools.product(*[sender[1] for sender in senders]):
        amounts = tuple(map(sum, zip(*[arrow[2] for arrow in row])))
        crew = tuple(map(sum, zip(*[arrow[3] for arrow in row])))
        arrows.append((places.index(tuple(arrow[0] for arrow in row)), places.index(tuple(arrow[1] for arrow in row)), amounts, crew))
    return len(places), tuple(arrows)


def parts(rng, works, most, places=3):
    """A bringer and some breakers, most of them with rings."""
    bringer = bringer_of(weak_sender(rng, works, rng.randint(1, places), rng.randint(1, most)))
    breakers = tuple(breaker_of(weak_sender(rng, works, rng.randint(1, 2), rng.randint(1, 3))) for _ in range(rng.randint(1, 2)))
    return bringer, breakers


class BesideTest(unittest.TestCase):

    def check(self, senders):
        both = asked(self, beside, senders)
        self.assertEqual(both, slow_beside(senders))
        places = list(itertools.product(*[range(sender[0]) for sender in senders]))
        self.assertEqual([asked(self, places_at, senders, place) for place in range(both[0])], places)
        arrows = list(itertools.product(*[range(len(sender[1])) for sender in senders]))
        self.assertEqual([arrows_at(senders, index) for index in range(len(both[1]))], arrows)
        return both

    def test_two(self):
        self.assertEqual(self.check((EVERY, TURN)), (4, (
            (0, 3, (1,), (1,)), (1, 2, (1,), (0,)), (2, 1, (0,), (1,)), (3, 0, (0,), (0,)))))

    def test_one_to_four(self):
        rng = seeded(4301)
        for many in (1, 2, 3, 4):
            for _ in range(6):
                works = random_works(rng)
                senders = tuple(random_sender(rng, works, rng.randint(1, 3), 4) for _ in range(many))
                self.assertTrue(is_sender(works, self.check(senders)))
        self.assertEqual(self.check((SENDER,)), SENDER)

    def test_without_arrows(self):
        self.assertEqual(self.check((EVERY, (3, ()))), (6, ()))
        self.assertEqual(self.check(((1, ()), (1, ()))), (1, ()))

    def test_too_many(self):
        load = ((0,), (0,))
        loops = [(1, ((0, 0) + load,) * many) for many in range(60)]
        self.assertEqual(asked(self, beside, ((10, ()), (20, ())))[0], 200)
        self.assertEqual(asked(self, beside, ((3, ()), (67, ()))), (TooMany, {"most": 200}))
        self.assertEqual(asked(self, beside, ((10, ()), (7, ()), (3, ()))), (TooMany, {"most": 200}))
        self.assertEqual(len(asked(self, beside, (loops[40], loops[50]))[1]), 2000)
        self.assertEqual(asked(self, beside, (loops[29], loops[3], loops[23])), (TooMany, {"most": 2000}))
        self.assertEqual(len(beside((loops[10], loops[10], loops[5], loops[4]))[1]), 2000)
        self.assertEqual(asked(self, beside, ((201, loops[1][1]), loops[3], (1, loops[41][1] * 41))), (TooMany, {"most": 200}))
        self.assertEqual(asked(self, beside, ((200, loops[40][1]), loops[50]))[0], 200)

    def test_numbers_beyond(self):
        senders = (circle((2,) * 10),) * 4
        self.assertEqual([places_at(senders, 9876), arrows_at(senders, 0), arrows_at(senders, 20 ** 4 - 1)],
                         [(9, 8, 7, 6), (0, 0, 0, 0), (19, 19, 19, 19)])


class ApartTest(unittest.TestCase):

    def check(self, works, bringer, breakers):
        """Whether they are held side by side, as holds tells of beside, and proved if not."""
        held = asked(self, holds_apart, works, bringer, breakers)
        self.assertIs(held, holds(works, beside((bringer,) + breakers)))
        told = asked(self, tariff_beside, works, bringer, breakers)
        self.assertEqual(told is None, held)
        if told is not None:
            tariff, means = told
            self.assertTrue(is_tariff(works, tariff) and is_fair(works, tariff))
            self.assertEqual(means, tuple(greatest_mean(sender, tariff) for sender in (bringer,) + breakers))
            self.assertGreater(sum(Fraction(*mean) for mean in means), 0)
            self.assertIs(asked(self, is_tariff_beside, works, bringer, breakers, told), True)
        return held

    def test_small_ones(self):
        self.assertIs(self.check(HAND, EVERY, (TURN,)), True)
        self.assertIs(self.check(HAND, (1, ((0, 0, (1,), (0,)),)), (TURN,)), False)
        self.assertIs(self.check(HAND, (1, ((0, 0, (1,), (0,)),)), (TURN, TURN)), True)
        self.assertIs(self.check(HAND, (1, ((0, 0, (3,), (0,)),)), (TURN, ALWAYS, ALWAYS)), False)
        self.assertIs(self.check(HAND, (1, ((0, 0, (2,), (0,)),)), (TURN, ALWAYS, ALWAYS)), True)
        self.assertEqual(tariff_beside(HAND, (1, ((0, 0, (1,), (0,)),)), (TURN,)), (((1,), (1,)), ((1, 1), (-1, 2))))

    def test_one_that_has_no_ring(self):
        for bringer, breakers in (((2, ((0, 1, (9,), (0,)),)), (TURN,)), ((1, ((0, 0, (9,), (0,)),)), ((1, ()),)),
                                  ((1, ((0, 0, (9,), (0,)),)), (TURN, (2, ((1, 1, (0,), (0,)),)))), ((1, ()), ((1, ()),))):
            self.assertIs(self.check(HAND, bringer, breakers), True)
            for thing in (((((1,), (1,)), ((9, 1), (0, 1)))), (((1,), (1,)), ((9, 1), None)), (((1,), (1,)), None)):
                self.assertIs(is_tariff_beside(HAND, bringer, breakers, thing), False)

    def test_many(self):
        rng = seeded(4302)
        seen = {True: 0, False: 0}
        for _ in range(200):
            works = random_works(rng, most=2)
            held = self.check(works, *parts(rng, works, 4))
            seen[held] += 1
        self.assertGreater(min(seen.values()), 30)
        self.assertIs(self.check(BARE, (1, ((0, 0, (1,), ()),)), ((1, ((0, 0, (0,), ()),)),)), False)

    def test_with_more_rings_than_can_be_gone_through(self):
        crowd = circle((3,) * 8, ((0,), (1,)))
        with self.assertRaises(TooMany):
            rings_of(crowd)
        with self.assertRaises(TooMany):
            beside((crowd, crowd, crowd))
        bringer = circle((3,) * 8, ((2,), (0,)))
        self.assertIs(holds_apart(HAND, bringer, (crowd, crowd)), True)
        self.assertIs(holds_apart(HAND, bringer, (crowd,)), False)
        self.assertIs(is_tariff_beside(HAND, bringer, (crowd,), tariff_beside(HAND, bringer, (crowd,))), True)
        crowd, told = circle((3,) * 8, ((0,) * 5, (9,) * 3)), []
        for amounts in ((9,) * 5, (9, 0, 0, 0, 0), (0, 0, 0, 0, 9), (0, 0, 0, 1, 9), (5, 5, 5, 5, 8)):
            told.append(asked(self, holds_apart, FULL, circle((3,) * 8, (amounts, (0,) * 3)), (crowd,) * 3))
            self.assertIs(told[-1], holds(FULL, (1, ((0, 0, amounts, (27,) * 3),))))
        self.assertEqual(sorted(set(told)), [False, True])

    def test_judged_by_the_words(self):
        bringer, breakers = (1, ((0, 0, (1,), (0,)), (0, 0, (0,), (0,)))), (TURN,)
        for thing, fits in (
            ((((1,), (1,)), ((1, 1), (-1, 2))), True), ((((2,), (2,)), ((2, 1), (-1, 1))), True), ((((2,), (3,)), ((2, 1), (-3, 2))), True),
            ((((1,), (2,)), ((1, 1), (-1, 1))), False), ((((1,), (0,)), ((1, 1), (0, 1))), False), ((((-1,), (0,)), ((0, 1), (0, 1))), False),
            ((((1,), (1,)), ((1, 1), (0, 1))), False), ((((1,), (1,)), ((-1, 2), (1, 1))), False), ((((1,), (1,)), ((1, 1),)), False),
            ((((1,), (1,)), ((2, 2), (-1, 2))), False), ((((1,), (1,)), [(1, 1), (-1, 2)]), False), ((((1,), (1,)), ((1, 1), (-1, 2)), 0), False),
            ((((1,), (1,)),), False), ((((1,), (1,)), ((1, True), (-1, 2))), False), ((((1,), (1,)), ((1, 1), (-1, 2), (0, 1))), False),
        ):
            self.assertIs(asked(self, is_tariff_beside, HAND, bringer, breakers, thing), fits, thing)

    def test_judged_of_any_value(self):
        bringer, breakers = (1, ((0, 0, (1,), (0,)),)), (TURN, TURN[:1] + (TURN[1][1:],))
        good = tariff_beside(HAND, (1, ((0, 0, (2,), (0,)),)), (TURN, ALWAYS))
        for thing in list(otherwise(good)) + any_values():
            self.assertIs(is_tariff_beside(HAND, (1, ((0, 0, (2,), (0,)),)), (TURN, ALWAYS), thing), False)
            self.assertIs(is_tariff_beside(HAND, bringer, breakers, thing), False)


class SharesTest(unittest.TestCase):

    def check(self, works, sender, name, told, place, part, best):
        """The best mean over all rings, with a ring that has it."""
        means = [Fraction(sum(sender[1][index][part][place] for index in ring), len(ring)) for ring in rings_of(sender)]
        if not means:
            self.assertIsNone(told)
            return
        (num, den), ring = told
        self.assertEqual(Fraction(num, den), best(means))
        self.assertEqual((num, den), (best(means).numerator, best(means).denominator))
        self.assertTrue(is_ring(sender, ring))
        self.assertEqual(Fraction(sum(sender[1][index][part][place] for index in ring), len(ring)), best(means))

    def test_small_ones(self):
        self.assertEqual(asked(self, least_share, HAND, TURN, "h"), ((1, 2), (0, 1)))
        self.assertEqual(asked(self, greatest_rate, HAND, EVERY, "a"), ((1, 2), (0, 1)))
        self.assertEqual(asked(self, least_share, HAND, (1, ((0, 0, (0,), (3,)), (0, 0, (0,), (2,)))), "h"), ((2, 1), (1,)))
        self.assertEqual(asked(self, greatest_rate, HAND, (1, ((0, 0, (3,), (0,)), (0, 0, (2,), (0,)))), "a"), ((3, 1), (0,)))
        self.assertEqual(least_share(HAND, (1, ((0, 0, (0,), (0,)),)), "h"), ((0, 1), (0,)))

    def test_many(self):
        rng = seeded(4303)
        for _ in range(120):
            works = random_works(rng)
            sender = weak_sender(rng, works, rng.randint(1, 4), rng.randint(0, 8))
            for place, name in enumerate(works[0]):
                bringer = bringer_of(sender)
                self.check(works, bringer, name, asked(self, greatest_rate, works, bringer, name), place, 2, max)
            for place, name in enumerate(works[1]):
                breaker = breaker_of(sender)
                self.check(works, breaker, name, asked(self, least_share, works, breaker, name), place, 3, min)

    def test_no_name(self):
        none = (2, ((0, 1, (0,), (0,)),))
        for sender in (none, TURN, (1, ())):
            for name in ["b", "a", "H", "", "hh", ("h",), ["h"], 0, True, None] + any_values():
                if name != "h":
                    with self.assertRaises(NoName) as caught:
                        least_share(HAND, sender, name)
                    self.assertIs(caught.exception.name, name)
                if name != "a":
                    with self.assertRaises(NoName) as caught:
                        greatest_rate(HAND, sender, name)
                    self.assertIs(caught.exception.name, name)
        self.assertEqual([least_share(HAND, none, "h"), greatest_rate(HAND, none, "a")], [None, None])

    def test_breakers_of_one_hand_count_by_their_least_shares(self):
        # What [43] says of breakers that bring hands of one kind alone.
        rng = seeded(4304)
        for _ in range(60):
            works = (TWO[0], TWO[1], TWO[2])
            bringer = bringer_of(weak_sender(rng, works, 2, 3))
            breaker = breaker_of(weak_sender(rng, works, 2, 3))
            alone = (breaker[0], tuple(arrow[:3] + ((arrow[3][0], 0),) for arrow in breaker[1]))
            if rings_of(alone):
                (num, den), _ = least_share(works, alone, "h")
                always = (1, ((0, 0, (0, 0), (num, 0)),))
                often = (bringer[0], tuple(arrow[:2] + (tuple(den * many for many in arrow[2]),) + arrow[3:] for arrow in bringer[1]))
                self.assertIs(holds_apart(works, bringer, (alone,)), holds_apart(works, often, (always,)))


if __name__ == "__main__":
    unittest.main()
