"""[32]: least rooms that are enough."""

import itertools
import unittest

from neverheaps.errors import TooMany
from neverheaps.leastrooms import least_rooms
from neverheaps.play import is_within
from neverheaps.tables import are_enough
from tests.samples import BARE, FULL, asked, seeded
from tests.test_tables import CHOICE, GREAT, LATER, ONE, TURN, choice_case, great_sender, random_case


def least_of_all(rooms_list):
    """Those rooms than which no other ones of the list are nowhere greater."""
    return [rooms for rooms in rooms_list if not any(other != rooms and is_within(other, rooms) for other in rooms_list)]


class LeastRoomsTest(unittest.TestCase):

    def check(self, works, sender, most):
        """The least rooms, each of which is asked for by itself."""
        told = asked(self, least_rooms, works, sender, most)
        everywhere = itertools.product(range(most + 1), repeat=len(works[0]))
        self.assertEqual(told, least_of_all([rooms for rooms in everywhere if are_enough(works, sender, rooms)]))
        return told

    def test_the_example(self):
        self.assertEqual(self.check(CHOICE, LATER, 1), [(1, 1, 1)])
        self.assertEqual(self.check(CHOICE, LATER, 0), [])
        self.assertEqual(self.check(ONE, TURN, 0), [])
        for most in range(1, 7):
            self.assertEqual(self.check(ONE, TURN, most), [(1,)])

    def test_several_least_ones(self):
        # What comes may be made into b or lie as a.
        works = (("a", "b"), ("h",), (((1, 0), (0, 1), None), ((0, 1), (0, 0), "h"), ((1, 0), (0, 0), "h")))
        sender = (2, ((0, 1, (2, 0), (0,)), (1, 0, (0, 0), (2,))))
        self.assertEqual(self.check(works, sender, 3), [(0, 2), (1, 1), (2, 0)])
        self.assertEqual(self.check(works, sender, 1), [(1, 1)])
        self.assertEqual(self.check(works, sender, 0), [])

    def test_many(self):
        rng = seeded(3201)
        found = 0
        for turn in range(120):
            works, sender, _ = choice_case(rng) if turn % 2 else random_case(rng)
            found += len(self.check(works, sender, rng.randint(0, 3 if len(works[0]) < 3 else 2)))
        self.assertGreater(found, 40)

    def test_nothing_and_no_arrows(self):
        for most in range(7):
            self.assertEqual(self.check(BARE, (1, ()), most), [(0,)])
            self.assertEqual(self.check(BARE, (1, ((0, 0, (1,), ()),)), most), [])
            self.assertEqual(self.check(BARE, (2, ((0, 1, (4,), ()),)), most), [(4,)] if most >= 4 else [])

    def test_too_many_rooms(self):
        kinds = ("a", "b", "c", "d", "e")
        for size, most, fits in ((1, 6, True), (2, 6, True), (3, 4, True), (3, 5, False), (3, 6, False), (4, 2, True), (4, 3, False),
                                 (5, 1, True), (5, 2, False), (5, 6, False)):
            told = asked(self, least_rooms, (kinds[:size], (), ()), (1, ()), most)
            self.assertEqual(told, [(0,) * size] if fits else (TooMany, {"most": 200}))

    def test_the_order_of_errors(self):
        plain = (("a",), (), (((1,), (0,), None),))
        both = (("a", "b"), (), (((1, 0), (0, 0), None), ((0, 1), (0, 0), None)))
        self.assertEqual(asked(self, least_rooms, BARE, (3001, ()), 0), (TooMany, {"most": 3000}))
        self.assertEqual(asked(self, least_rooms, BARE, (1501, ()), 1), (TooMany, {"most": 3000}))
        self.assertEqual(asked(self, least_rooms, BARE, (1500, ()), 1), [(0,)])
        self.assertEqual(asked(self, least_rooms, FULL, (3001, ()), 2), (TooMany, {"most": 200}))
        self.assertEqual(asked(self, least_rooms, both, (1, ((0, 0, (69, 69), ()),)), 1), (TooMany, {"most": 5000}))
        self.assertEqual(asked(self, least_rooms, both, (1, ((0, 0, (69, 69), ()),)), 0), [(0, 0)])
        self.assertEqual(asked(self, least_rooms, plain, (1, ((0, 0, (4998,), ()),)), 1), [(0,)])
        self.assertEqual(asked(self, least_rooms, plain, (1, ((0, 0, (4999,), ()),)), 1), (TooMany, {"most": 5000}))

    def test_up_to_the_bounds(self):
        sender = great_sender(seeded(199))
        told = asked(self, least_rooms, GREAT, sender, 1)
        self.assertTrue(all(are_enough(GREAT, sender, rooms) for rooms in told))
        two = (("a", "b"), ("h", "k"), (((1, 0), (0, 0), "h"), ((0, 1), (0, 0), "k"), ((1, 0), (0, 1), None)))
        rng = seeded(3202)
        arrows = tuple((at % 10, rng.randrange(10), (rng.randint(0, 2), rng.randint(0, 1)), (2, rng.randint(1, 3))) for at in range(24))
        self.assertTrue(self.check(two, (10, arrows), 6))


if __name__ == "__main__":
    unittest.main()
