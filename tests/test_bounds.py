"""[29]: rooms that are told ahead, by the words of the point."""

import unittest

from neverheaps.bounds import batches_most, load_of, rooms_told
from neverheaps.errors import Gains, TooMany
from neverheaps.forms import is_tariff
from neverheaps.held import holds, why_not
from neverheaps.plans import plan_of
from neverheaps.rings import gain_of, rings_of
from neverheaps.tariffs import is_fair
from neverheaps.works import levels
from tests.samples import BARE, FULL, MANY, RINGS, WORKS, asked, circle, random_works, seeded
from tests.test_held import weak_sender
from tests.test_tracker import DEEP, DEEP_SENDER, ONE, TURN


def slow_load(works, sender, ring):
    """The load of a ring, kind by kind."""
    times, rows, free = plan_of(works, sender, ring)
    load = []
    for kind in range(len(works[0])):
        brought = sum(sender[1][index][2][kind] for index in ring)
        put = sum(row[at] * works[2][at][1][kind] for row in rows + (free,) for at in range(len(works[2])))
        load.append(times * brought + put)
    return tuple(load)


def slow_batches(works, sender):
    """N, step by step."""
    times = [plan_of(works, sender, ring)[0] for ring in rings_of(sender)]
    many = sum(item for _, _, _, crew in sender[1] for item in crew)
    depth = 1 + max(levels(works)) if works[2] else 1
    number = 0
    for _ in range(depth):
        number = many * (sum(times) + (max(times) if times else 0) * number)
    return number


def slow_rooms(works, sender):
    """The rooms, kind by kind."""
    rings = rings_of(sender)
    many = sum(plan_of(works, sender, ring)[0] for ring in rings) + slow_batches(works, sender)
    rooms = []
    for kind in range(len(works[0])):
        once = sum(amounts[kind] for _, _, amounts, _ in sender[1])
        rooms.append(once + max([slow_load(works, sender, ring)[kind] for ring in rings], default=0) * many)
    return tuple(rooms)


class BoundsTest(unittest.TestCase):

    def check(self, works, sender):
        """Rooms, loads and N, which are as the words say."""
        for ring in rings_of(sender):
            self.assertEqual(asked(self, load_of, works, sender, ring), slow_load(works, sender, ring))
        self.assertEqual(asked(self, batches_most, works, sender), slow_batches(works, sender))
        rooms = asked(self, rooms_told, works, sender)
        self.assertEqual(rooms, slow_rooms(works, sender))
        return rooms

    def test_small_ones(self):
        # Two rings with times 1 each, so P = 2, M = 1, E = 1, D = 1: N = 2, and rooms are 1 + 1 * (2 + 2).
        self.assertEqual(batches_most(ONE, TURN), 2)
        self.assertEqual([load_of(ONE, TURN, (0, 1)), load_of(ONE, TURN, (2,))], [(1,), (0,)])
        self.assertEqual(self.check(ONE, TURN), (5,))

    def test_crews_that_are_not_come_to_count(self):
        sender = (4, TURN[1] + ((3, 3, (7,), (4,)),))
        # E = 5: N = 10, and rooms are 8 + 1 * (2 + 10).
        self.assertEqual(batches_most(ONE, sender), 10)
        self.assertEqual(self.check(ONE, sender), (20,))

    def test_without_rings_and_without_recipes(self):
        self.assertEqual(self.check(ONE, (1, ())), (0,))
        self.assertEqual(self.check(FULL, (2, ((0, 1, (1, 2, 3, 4, 5), (1, 1, 1)), (0, 1, (9, 0, 0, 0, 1), (0, 0, 0))))),
                         (10, 2, 3, 4, 6))
        self.assertEqual(batches_most(FULL, (2, ((0, 1, (1, 2, 3, 4, 5), (1, 1, 1)),))), 0)
        self.assertEqual(self.check(BARE, (1, ())), (0,))
        self.assertEqual(self.check(BARE, (2, ((0, 0, (0,), ()), (0, 1, (3,), ())))), (3,))
        hands = (("a",), ("h",), ())
        sender = (2, ((0, 0, (0,), (2,)), (0, 0, (0,), (3,)), (0, 1, (4,), (0,))))
        # P = 2, E = 5, D = 1.
        self.assertEqual([batches_most(hands, sender), self.check(hands, sender)], [10, (4,)])

    def test_depths(self):
        self.assertEqual(max(levels(DEEP)), 3)
        self.assertGreater(min(self.check(DEEP, DEEP_SENDER)), 0)
        times = [plan_of(DEEP, DEEP_SENDER, ring)[0] for ring in rings_of(DEEP_SENDER)]
        number = 0
        for _ in range(4):
            number = 16 * (sum(times) + max(times) * number)
        self.assertEqual(batches_most(DEEP, DEEP_SENDER), number)

    def test_many(self):
        rng = seeded(2901)
        many = 0
        while many < 100:
            works = random_works(rng, most=rng.choice((1, 2, 4)))
            sender = weak_sender(rng, works, rng.randint(1, 5), rng.randint(0, 8))
            if holds(works, sender):
                many += 1
                self.check(works, sender)

    def test_errors(self):
        too_many = circle(MANY, ((1,), (0,)), 1)
        for function in (rooms_told, batches_most):
            self.assertEqual(asked(self, function, ONE, too_many), (TooMany, {"most": 2000}))
            for works, sender in ((ONE, circle(MANY, ((1,), (0,)))), (WORKS, RINGS), (ONE, (1, ((0, 0, (1,), (0,)),)))):
                ring, tariff = why_not(works, sender)
                self.assertEqual(asked(self, function, works, sender), (Gains, {"ring": ring, "tariff": tariff}))

    def test_loads_of_rings_that_gain(self):
        sender = (2, TURN[1] + ((0, 0, (2,), (1,)),))
        self.assertEqual(load_of(ONE, sender, (0, 1)), (1,))
        error, fields = asked(self, load_of, ONE, sender, (3,))
        self.assertEqual([error, fields["ring"]], [Gains, (3,)])
        self.assertTrue(is_tariff(ONE, fields["tariff"]) and is_fair(ONE, fields["tariff"]))
        self.assertGreater(gain_of(sender, fields["tariff"], (3,)), 0)

    def test_up_to_the_bounds(self):
        self.assertEqual(len(rings_of(circle(MANY, ((1,), (1,))))), 2000)
        # P = 2000, M = 1, E = 23, D = 1; a ring brings 7.
        self.assertEqual(batches_most(ONE, circle(MANY, ((1,), (1,)))), 23 * 2000)
        self.assertEqual(rooms_told(ONE, circle(MANY, ((1,), (1,)))), (23 + 7 * (2000 + 46000),))
        arrows = tuple((at % 10, (at * 7 + 1) % 10, (at % 2, 0, 0, 0, at % 3), (9, 9, 9)) for at in range(24))
        self.check(FULL, (10, arrows))


if __name__ == "__main__":
    unittest.main()
