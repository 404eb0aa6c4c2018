"""[23]: rings, places that are come to, and what arrows bring together."""

import itertools
import math
import unittest

from neverheaps.errors import TooMany
from neverheaps.forms import is_ring
from neverheaps.play import sums_of
from neverheaps.rings import come_to, gain_of, rings_of, sum_of
from neverheaps.tariffs import pay, worth
from tests.samples import BARE, FULL, MANY, RINGS, SENDER, WORKS, asked, circle, random_sender, random_works, seeded

LONE = (1, ())


def slow_come_to(sender):
    """The places at which runs end that are shorter than there are places."""
    ends = {0}
    for _ in range(sender[0]):
        ends |= {target for source, target, _, _ in sender[1] if source in ends}
    return tuple(sorted(ends))


def slow_rings(sender):
    """All tuples of arrows, each from another place, that are rings."""
    longest = len({source for source, _, _, _ in sender[1]})
    found = []
    for size in range(1, longest + 1):
        found += [indexes for indexes in itertools.permutations(range(len(sender[1])), size) if is_ring(sender, indexes)]
    return sorted(found)


def moved(arrows, by):
    """The arrows between places so much further on."""
    return tuple((source + by, target + by, amounts, crew) for source, target, amounts, crew in arrows)


class ComeToTest(unittest.TestCase):

    def test_places(self):
        self.assertEqual(asked(self, come_to, LONE), (0,))
        self.assertEqual(asked(self, come_to, (10, ())), (0,))
        self.assertEqual(asked(self, come_to, RINGS), (0, 1, 2))
        self.assertEqual(asked(self, come_to, SENDER), (0, 1))
        chain = tuple((place, place + 1, (0,), ()) for place in reversed(range(9)))
        self.assertEqual(come_to((10, chain)), tuple(range(10)))
        self.assertEqual(come_to((10, chain[1:])), tuple(range(9)))
        self.assertEqual(come_to((3, ((1, 2, (0,), ()), (2, 0, (0,), ())))), (0,))

    def test_many_senders(self):
        rng = seeded(2301)
        for _ in range(200):
            sender = random_sender(rng, BARE, 6)
            self.assertEqual(come_to(sender), slow_come_to(sender))


class RingsTest(unittest.TestCase):

    def test_rings(self):
        self.assertEqual(asked(self, rings_of, LONE), [])
        self.assertEqual(asked(self, rings_of, (2, ((0, 1, (0,), ()),))), [])
        self.assertEqual(asked(self, rings_of, SENDER), [(0, 1)])
        self.assertEqual(asked(self, rings_of, RINGS), [(0, 1), (0, 2, 3), (2, 7), (4,)])
        # A ring that is not come to is none; one that is closed at a lesser place begins there.
        away = (4, ((1, 2, (0,), ()), (2, 1, (0,), ()), (0, 3, (0,), ())))
        self.assertEqual(rings_of(away), [])
        self.assertEqual(rings_of((4, away[1] + ((3, 2, (0,), ()),))), [(0, 1)])

    def test_arrows_back_to_their_place_and_several_between_two(self):
        arrows = ((0, 0, (0,), ()), (0, 1, (0,), ()), (0, 0, (1,), ()), (1, 0, (0,), ()), (0, 1, (0,), ()), (1, 1, (0,), ()))
        self.assertEqual(asked(self, rings_of, (2, arrows)), [(0,), (1, 3), (2,), (4, 3), (5,)])

    def test_many_senders(self):
        rng = seeded(2302)
        for turn in range(150):
            sender = random_sender(rng, BARE, rng.randint(1, 5), 6)
            self.assertEqual(asked(self, rings_of, sender), slow_rings(sender), turn)

    def test_all_between_four_places(self):
        full = (4, tuple((one, other, (0,), ()) for one in range(4) for other in range(4)))
        # 4 of one place, 6 of two, 8 of three, 6 of four.
        self.assertEqual(len(rings_of(full)), 24)

    def test_too_many(self):
        rings = asked(self, rings_of, circle(MANY))
        self.assertEqual([len(rings), rings == sorted(set(rings))], [2000, True])
        self.assertTrue(all(is_ring(circle(MANY), ring) for ring in rings))
        self.assertEqual(asked(self, rings_of, circle(MANY, loops=1)), (TooMany, {"most": 2000}))
        self.assertEqual(len(rings_of(circle((2,) * 10, loops=976))), 2000)
        for loops in (977, 1500):
            self.assertEqual(asked(self, rings_of, circle((2,) * 10, loops=loops)), (TooMany, {"most": 2000}))
        # Those that are not come to do not count.
        places, arrows = circle(MANY, loops=1)
        self.assertEqual(rings_of((places + 1, moved(arrows, 1))), [])

    def test_too_many_of_several_least_places(self):
        places, arrows = circle((4, 5, 5, 5))
        for loops, many in ((1499, 1999), (1500, 2000), (1501, None)):
            joined = arrows + ((0, places, (0,), ()),) + moved(circle((1,), loops=loops - 1)[1], places)
            found = asked(self, rings_of, (places + 1, joined))
            self.assertEqual(found == (TooMany, {"most": 2000}) if many is None else len(found) == many, True)

    def test_up_to_the_bounds(self):
        for steps in ((3, 3, 3, 3, 3, 3, 2, 1, 1, 2), (1,) * 9 + (15,), (12, 12)):
            many = math.prod(steps)
            found = asked(self, rings_of, circle(steps))
            self.assertEqual(found == (TooMany, {"most": 2000}) if many > 2000 else len(found) == many, True)


class SumsTest(unittest.TestCase):

    def test_sums(self):
        self.assertEqual(asked(self, sum_of, WORKS, SENDER, ()), ((0, 0, 0), (0,)))
        self.assertEqual(asked(self, sum_of, WORKS, SENDER, (0, 1)), ((2, 0, 1), (1,)))
        self.assertEqual(asked(self, sum_of, WORKS, SENDER, (1, 0, 1, 1)), ((2, 0, 3), (1,)))
        # They need not be a run, and their places need not be come to.
        self.assertEqual(asked(self, sum_of, WORKS, RINGS, (7, 5, 2, 2)), ((0, 18, 0), (20,)))
        self.assertEqual(sum_of(BARE, (1, ((0, 0, (3,), ()),)), (0, 0)), ((6,), ()))

    def test_gains(self):
        tariff = ((3, -1, 10), (2,))
        self.assertEqual(asked(self, gain_of, SENDER, tariff, ()), 0)
        self.assertEqual(asked(self, gain_of, SENDER, tariff, (0,)), 4)
        self.assertEqual(asked(self, gain_of, SENDER, tariff, (1, 0, 1)), 24)
        self.assertEqual(asked(self, gain_of, RINGS, tariff, (7, 5, 2, 2)), -18 - 40)

    def test_many(self):
        rng = seeded(2303)
        for _ in range(100):
            works = random_works(rng)
            sender = random_sender(rng, works)
            many = len(sender[1])
            indexes = tuple(rng.randrange(many) for _ in range(rng.randint(0, 9))) if many else ()
            play = [()] * len(indexes)
            self.assertEqual(sum_of(works, sender, indexes), sums_of(works, sender, indexes, play)[:2])
            tariff = (tuple(rng.randint(-5, 5) for _ in works[0]), tuple(rng.randint(0, 5) for _ in works[1]))
            amounts, crew = sum_of(works, sender, indexes)
            self.assertEqual(gain_of(sender, tariff, indexes), worth(tariff, amounts) - pay(tariff, crew))

    def test_great_prices(self):
        tariff = ((10 ** 9,) * 5, (10 ** 9,) * 3)
        sender = (1, ((0, 0, (9,) * 5, (9,) * 3),))
        self.assertEqual(sum_of(FULL, sender, (0,) * 400), ((3600,) * 5, (3600,) * 3))
        self.assertEqual(gain_of(sender, tariff, (0,) * 400), 400 * 18 * 10 ** 9)


if __name__ == "__main__":
    unittest.main()
