"""[37]: recipes and hands without which a works bears as much."""

import itertools
import unittest

from neverheaps.against import are_alike
from neverheaps.needless import greatest_apart, least_bearing, least_lots, needless_hands, needless_recipes, works_of
from neverheaps.ways import can_work_off, ways_of
from neverheaps.works import with_hand
from tests.samples import BARE, FULL, WORKS, asked, random_works, seeded
from tests.test_against import ALONE, BOTH, ONE, OTHER, other_works, with_recipes

THREE = (("a", "b"), ("h",), (BOTH, ALONE, BOTH))


def all_lots(works):
    many = len(works[2])
    return [lot for size in range(many + 1) for lot in itertools.combinations(range(many), size)]


def slow_bears(works, lot, other):
    """Whether the works of a lot works off the ways of the other one, by shares."""
    part = (works[0], works[1], tuple(works[2][index] for index in lot))
    return all(can_work_off(part, *way) is not None for way in ways_of(other))


def least_of(lots):
    """Those of which no lesser part is there."""
    return sorted(lot for lot in lots if not any(set(other) < set(lot) for other in lots))


def greatest_of(lots):
    """Those that lie in no other one."""
    return sorted(lot for lot in lots if not any(set(other) > set(lot) for other in lots))


class NeedlessTest(unittest.TestCase):

    def check(self, works):
        """Recipes, lots and hands, each of which is as the words say."""
        many = len(works[2])
        bearing = [lot for lot in all_lots(works) if slow_bears(works, lot, works)]
        lots = asked(self, least_lots, works)
        self.assertEqual(lots, least_of(bearing))
        self.assertTrue(all(are_alike(works_of(works, lot), works) for lot in lots))
        recipes = asked(self, needless_recipes, works)
        self.assertEqual(recipes, [index for index in range(many) if tuple(at for at in range(many) if at != index) in bearing])
        hands = asked(self, needless_hands, works)
        wanted = [tuple(at for at in range(many) if works[2][at][2] != hand) for hand in works[1]]
        self.assertEqual(hands, tuple(hand for hand, lot in zip(works[1], wanted) if lot in bearing))
        return lots

    def check_other(self, works, other):
        """Lots that bear the other works, and that do not."""
        bearing = [lot for lot in all_lots(works) if slow_bears(works, lot, other)]
        self.assertEqual(asked(self, least_bearing, works, other), least_of(bearing))
        apart = [lot for lot in all_lots(works) if lot not in bearing]
        self.assertEqual(asked(self, greatest_apart, works, other), greatest_of(apart))
        return len(bearing), len(apart)

    def test_works_of_lots(self):
        self.assertEqual(asked(self, works_of, THREE, ()), with_recipes(THREE, ()))
        self.assertEqual(asked(self, works_of, THREE, (1, 2)), with_recipes(THREE, (ALONE, BOTH)))
        self.assertEqual(asked(self, works_of, FULL, tuple(range(8))), FULL)
        self.assertEqual(asked(self, works_of, BARE, ()), BARE)

    def test_the_example(self):
        self.assertEqual([needless_recipes(THREE), least_lots(THREE)], [[0, 2], [(0, 1), (1, 2)]])
        self.assertEqual(self.check(THREE), [(0, 1), (1, 2)])
        self.assertEqual(needless_hands(THREE), ())

    def test_recipes_that_are_the_same(self):
        works = with_recipes(OTHER, [BOTH] * 4 + [ALONE] * 4)
        self.assertEqual(self.check(works), [(one, other) for one in range(4) for other in range(4, 8)])
        self.assertEqual(needless_recipes(works), list(range(8)))
        self.assertEqual(self.check(with_recipes(OTHER, [ALONE] * 8)), [(index,) for index in range(8)])

    def test_without_recipes_ways_and_hands(self):
        self.assertEqual(self.check(BARE), [()])
        self.assertEqual([needless_recipes(BARE), needless_hands(BARE)], [[], ()])
        stuck = (("a", "b"), ("h", "k"), (((1, 0), (0, 1), "h"),))
        self.assertEqual(self.check(stuck), [()])
        self.assertEqual([needless_recipes(stuck), needless_hands(stuck)], [[0], ("h", "k")])
        self.assertEqual(self.check_other(stuck, stuck), (2, 0))
        self.assertEqual([greatest_apart(stuck, stuck), least_bearing(stuck, stuck)], [[], [()]])

    def test_hands(self):
        works = (("a",), ("h", "j", "k"), (((1,), (0,), "h"), ((1,), (0,), "j"), ((2,), (0,), "j")))
        self.check(works)
        self.assertEqual(needless_hands(works), ("k",))
        self.assertEqual(needless_hands(with_hand(OTHER, "k")), ("k",))
        # What a hand does another recipe does without one.
        free = (("a",), ("h", "k"), (((1,), (0,), "h"), ((1,), (0,), "k"), ((2,), (0,), None)))
        self.check(free)
        self.assertEqual(needless_hands(free), ("h", "k"))

    def test_none_bears(self):
        self.assertEqual(self.check_other(ONE, OTHER), (0, 2))
        self.assertEqual([greatest_apart(ONE, OTHER), least_bearing(ONE, OTHER)], [[(0,)], []])
        self.assertEqual([greatest_apart(with_recipes(ONE, ()), ONE), least_bearing(with_recipes(ONE, ()), ONE)], [[()], []])
        self.assertEqual([greatest_apart(BARE, BARE), least_bearing(BARE, BARE)], [[], [()]])

    def test_many(self):
        rng = seeded(3701)
        seen = [0, 0, 0]
        for _ in range(60):
            works = random_works(rng, recipes=rng.randint(0, 6), most=rng.choice((1, 1, 2)))
            seen[0] += len(self.check(works)) > 1
            other = other_works(rng, works, 1)
            bearing, apart = self.check_other(works, other)
            seen[1] += bearing > 1
            seen[2] += apart > 1
        self.assertGreater(min(seen), 8)

    def test_eight_recipes(self):
        rng = seeded(3702)
        for works in (FULL, random_works(rng, 2, 2, 8, 1), random_works(rng, 5, 3, 8, 2), with_recipes(WORKS, WORKS[2] * 4)):
            self.check(works)
        self.check_other(FULL, with_recipes(FULL, FULL[2][3:]))
        self.check_other(FULL, with_recipes(FULL, FULL[2][:5]))


if __name__ == "__main__":
    unittest.main()
