"""[24]: greatest mean gains, and heights that prove them."""

import unittest
from fractions import Fraction

from neverheaps.errors import TooMany
from neverheaps.forms import is_ring
from neverheaps.heights import are_heights, greatest_mean, mean_heights, mean_ring
from neverheaps.rings import come_to, gain_of, rings_of
from tests.samples import BARE, FULL, RINGS, any_values, asked, otherwise, random_sender, random_works, seeded

# By this tariff an arrow gains what it brings less its crew.
PLAIN = ((1,), (1,))
TURN = (2, ((0, 1, (1,), (0,)), (1, 0, (0,), (1,)), (1, 1, (2,), (1,))))


def slow_mean(sender, tariff):
    """The greatest mean gain, ring by ring."""
    means = [Fraction(gain_of(sender, tariff, ring), len(ring)) for ring in rings_of(sender)]
    return max(means, default=None)


def slow_heights(sender, tariff, num, den):
    """The greatest value of the runs to each place that are shorter than there are places."""
    best = {0: 0}
    for _ in range(sender[0]):
        for index, (source, target, _, _) in enumerate(sender[1]):
            if source in best:
                value = best[source] + den * gain_of(sender, tariff, (index,)) - num
                best[target] = max(value, best.get(target, value))
    return tuple(best.get(place) for place in range(sender[0]))


def random_tariff(rng, works, most=5):
    prices = tuple(rng.randint(-most, most) for _ in works[0])
    return prices, tuple(rng.randint(0, most) for _ in works[1])


class MeansTest(unittest.TestCase):

    def check(self, sender, tariff):
        """The greatest mean gain, or None; all that goes with it fits."""
        mean, ring = asked(self, greatest_mean, sender, tariff), asked(self, mean_ring, sender, tariff)
        heights = asked(self, mean_heights, sender, tariff)
        if mean is None:
            self.assertIsNone(ring)
        else:
            self.assertTrue(is_ring(sender, ring))
            self.assertEqual(Fraction(*mean), Fraction(gain_of(sender, tariff, ring), len(ring)))
            self.assertEqual(mean, (Fraction(*mean).numerator, Fraction(*mean).denominator))
        num, den = mean or (0, 1)
        self.assertEqual(heights, slow_heights(sender, tariff, num, den))
        self.assertIs(are_heights(sender, tariff, (num, den), heights), True)
        self.assertEqual([height is None for height in heights], [place not in come_to(sender) for place in range(sender[0])])
        return mean

    def test_the_example(self):
        self.assertEqual(self.check(TURN, PLAIN), (1, 1))
        self.assertEqual(mean_ring(TURN, PLAIN), (2,))
        self.assertEqual(mean_heights((2, TURN[1][:2]), PLAIN), (0, 1))

    def test_no_ring(self):
        self.assertIsNone(self.check((1, ()), PLAIN))
        self.assertEqual(mean_heights((1, ()), PLAIN), (0,))
        chain = (4, ((0, 1, (3,), (1,)), (0, 2, (5,), (0,)), (1, 2, (4,), (0,)), (3, 3, (9,), (0,))))
        self.assertIsNone(self.check(chain, PLAIN))
        self.assertEqual(mean_heights(chain, PLAIN), (0, 2, 6, None))

    def test_rings_that_are_not_come_to_do_not_count(self):
        sender = (3, ((0, 0, (1,), (0,)), (1, 2, (9,), (0,)), (2, 1, (9,), (0,)), (2, 0, (9,), (0,))))
        self.assertEqual(self.check(sender, PLAIN), (1, 1))
        self.assertEqual(mean_heights(sender, PLAIN), (0, None, None))

    def test_means_below_0_and_between(self):
        loss = (3, ((0, 1, (0,), (1,)), (1, 2, (0,), (1,)), (2, 0, (1,), (0,))))
        self.assertEqual(self.check(loss, PLAIN), (-1, 3))
        self.assertEqual(mean_heights(loss, PLAIN), (0, -2, -4))
        even = (2, ((0, 1, (5,), (2,)), (1, 0, (0,), (3,))))
        self.assertEqual(self.check(even, PLAIN), (0, 1))
        self.assertEqual(self.check((1, ((0, 0, (6,), (2,)),)), PLAIN), (4, 1))

    def test_many_senders(self):
        rng = seeded(2401)
        for turn in range(250):
            works = random_works(rng)
            sender = random_sender(rng, works, rng.randint(1, 6), 9)
            tariff = random_tariff(rng, works)
            mean = self.check(sender, tariff)
            self.assertEqual(None if mean is None else Fraction(*mean), slow_mean(sender, tariff), turn)

    def test_more_rings_than_can_be_gone_through(self):
        # Steps with several arrows each, of which one is best: 5,184 rings.
        arrows = []
        for place, many in enumerate((3, 3, 3, 3, 2, 2, 2, 2, 2, 2)):
            arrows += [(place, (place + 1) % 10, (one,), (0,)) for one in range(many)]
        sender = (10, tuple(arrows))
        with self.assertRaises(TooMany):
            rings_of(sender)
        self.assertEqual(self.check(sender, PLAIN), (7, 5))
        self.assertEqual(mean_ring(sender, PLAIN), (2, 5, 8, 11, 13, 15, 17, 19, 21, 23))
        # All arrows between the places, and arrows back: the best ring has two of them.
        most = [(one, other, (0,), (abs(one - other),)) for one in range(5) for other in range(5) if one != other]
        most += [(2, 3, (4,), (0,))]
        self.assertEqual(self.check((5, tuple(most)), PLAIN), (3, 2))

    def test_great_prices(self):
        tariff = ((10 ** 9, -(10 ** 9), 1, 10 ** 9 - 1, 7), (10 ** 9, 3, 0))
        rng = seeded(2402)
        for _ in range(20):
            self.check((10, random_sender(rng, FULL, 10, 24)[1]), tariff)


class AreHeightsTest(unittest.TestCase):

    def test_words(self):
        self.assertIs(are_heights(TURN, PLAIN, (1, 1), (0, 0)), True)
        # The arrow from 1 to 0 loses 2 by this mean, the one from 0 to 1 nothing.
        self.assertIs(are_heights(TURN, PLAIN, (1, 1), (0, 2)), True)
        self.assertIs(are_heights(TURN, PLAIN, (1, 1), (0, 3)), False)
        self.assertIs(are_heights(TURN, PLAIN, (1, 1), (0, -1)), False)
        self.assertIs(are_heights(TURN, PLAIN, (1, 1), (-7, -6)), True)
        self.assertIs(are_heights(TURN, PLAIN, (1, 2), (0, 9)), False)
        self.assertIs(are_heights(TURN, PLAIN, (3, 2), (0, -1)), True)
        self.assertIs(are_heights(TURN, PLAIN, (3, 2), (0, -2)), False)
        self.assertIs(are_heights((1, ()), PLAIN, (0, 1), (5,)), True)

    def test_one_too_low_and_one_that_may_be_higher(self):
        rng = seeded(2403)
        seen = {True: 0, False: 0}
        for _ in range(100):
            sender = (3, random_sender(rng, (("a",), ("h",), ()), 3, 6)[1])
            num, den = greatest_mean(sender, PLAIN) or (0, 1)
            heights = mean_heights(sender, PLAIN)
            for place, height in enumerate(heights):
                if height is None:
                    continue
                for step in (-1, 1):
                    moved = heights[:place] + (height + step,) + heights[place + 1:]
                    steps = [(moved[source], moved[target], den * (amounts[0] - crew[0]) - num)
                             for source, target, amounts, crew in sender[1] if moved[source] is not None]
                    fits = all(end >= begin + by for begin, end, by in steps)
                    self.assertIs(are_heights(sender, PLAIN, (num, den), moved), fits)
                    seen[fits] += 1
        self.assertGreater(min(seen.values()), 50)

    def test_none_stands_just_for_places_that_are_not_come_to(self):
        sender = (3, ((0, 1, (0,), (0,)), (2, 1, (9,), (0,))))
        self.assertIs(are_heights(sender, PLAIN, (0, 1), (0, 0, None)), True)
        for thing in ((0, 0, 0), (0, None, None), (None, 0, None), (None, None, None), (0, 0), (0, 0, None, None), ()):
            self.assertIs(asked(self, are_heights, sender, PLAIN, (0, 1), thing), False)

    def test_other_fractions(self):
        heights = mean_heights(TURN, PLAIN)
        for mean in ((0, 1), (1, 2), (99, 100), (-5, 1)):
            self.assertIs(are_heights(TURN, PLAIN, mean, heights), False)
        for mean in ((1, 1), (2, 1), (10 ** 12, 1)):
            self.assertIs(are_heights(TURN, PLAIN, mean, heights), True)
        # A part of the fraction counts as it stands, above and below the line.
        half = (2, ((0, 1, (1,), (0,)), (1, 0, (0,), (0,))))
        self.assertIs(are_heights(half, PLAIN, (1, 2), (0, 1)), True)
        self.assertIs(are_heights(half, PLAIN, (1, 2), (0, 0)), False)

    def test_any_value(self):
        heights = mean_heights(RINGS, ((1, 1, 1), (1,)))
        self.assertEqual(heights[3], None)
        tariff, mean = ((1, 1, 1), (1,)), greatest_mean(RINGS, ((1, 1, 1), (1,)))
        self.assertIs(are_heights(RINGS, tariff, mean, heights), True)
        for thing in any_values() + list(otherwise(heights)):
            self.assertIs(are_heights(RINGS, tariff, mean, thing), False)
        for thing in ((True, True, True, None), (False, False, False, None)):
            self.assertIs(are_heights(RINGS, ((0, 0, 0), (0,)), (0, 1), thing), False)
        self.assertIs(are_heights(RINGS, ((0, 0, 0), (0,)), (0, 1), (0, 0, 0, None)), True)
        self.assertIs(are_heights((1, ()), ((1,), ()), (0, 1), (True,)), False)
        self.assertIs(are_heights((1, ()), ((1,), ()), (0, 1), [0]), False)
        self.assertEqual(mean_heights((1, ()), ((1,), ())), (0,) + (None,) * (len(BARE[0]) - 1))


if __name__ == "__main__":
    unittest.main()
