"""[38]: what is wanting, rings that are bad, and arrows that bar them."""

import itertools
import unittest

from neverheaps.errors import TooMany
from neverheaps.held import holds
from neverheaps.rings import rings_of, sum_of
from neverheaps.wanting import bad_rings, barring, wanting
from neverheaps.ways import can_work_off
from tests.samples import BARE, FULL, MANY, RINGS, WORKS, asked, circle, random_recipe, random_works, seeded
from tests.test_against import ALONE, BOTH, ONE, OTHER, with_recipes
from tests.test_held import weak_sender
from tests.test_needless import least_of

SENDER = (1, ((0, 0, (1, 1), (0,)), (0, 0, (2, 1), (0,))))
HAND = (("a",), ("h",), (((1,), (0,), "h"),))


def slow_holds(works, sender):
    """Whether the crews of each ring work off what it brings."""
    return all(can_work_off(works, *sum_of(works, sender, ring)) is not None for ring in rings_of(sender))


def slow_wanting(works, sender, recipes):
    lots = [lot for size in range(len(recipes) + 1) for lot in itertools.combinations(range(len(recipes)), size)]
    return least_of([lot for lot in lots if slow_holds(with_recipes(works, works[2] + tuple(recipes[at] for at in lot)), sender)])


def slow_barring(works, sender, most):
    lots = [lot for size in range(most + 1) for lot in itertools.combinations(range(len(sender[1])), size)]
    left = {lot: (sender[0], tuple(arrow for at, arrow in enumerate(sender[1]) if at not in lot)) for lot in lots}
    return least_of([lot for lot in lots if slow_holds(works, left[lot])])


class WantingTest(unittest.TestCase):

    def test_the_example(self):
        self.assertEqual(asked(self, wanting, ONE, SENDER, (ALONE, ((2, 1), (0, 0), None))), [(1,)])
        self.assertEqual([asked(self, bad_rings, ONE, SENDER), asked(self, barring, ONE, SENDER, 2)], [[(1,)], [(1,)]])

    def test_held_anyhow_and_not_even_with_all(self):
        held = (1, SENDER[1][:1])
        for recipes in ((), (ALONE,), (ALONE,) * 5):
            self.assertEqual(asked(self, wanting, ONE, held, recipes), [()])
            self.assertEqual(asked(self, wanting, ONE, SENDER, recipes), [])
        self.assertEqual(wanting(BARE, (1, ()), ()), [()])
        self.assertEqual(wanting(BARE, (1, ((0, 0, (1,), ()),)), (((2,), (0,), None),) * 2), [(0,), (1,)])

    def test_parts_that_do_only_together(self):
        works = (("a", "b", "c"), (), ())
        sender = (1, ((0, 0, (1, 0, 0), ()),))
        first, second, once = ((1, 0, 0), (0, 1, 0), None), ((0, 1, 0), (0, 0, 0), None), ((3, 0, 0), (0, 0, 0), None)
        self.assertEqual(asked(self, wanting, works, sender, (first, second)), [(0, 1)])
        self.assertEqual(asked(self, wanting, works, sender, (first, once, second, first, second)),
                         [(0, 2), (0, 4), (1,), (2, 3), (3, 4)])

    def test_many(self):
        rng = seeded(3801)
        seen = [0, 0, 0]
        for _ in range(120):
            works = random_works(rng, recipes=rng.randint(0, 8), most=2)
            sender = weak_sender(rng, works, rng.randint(1, 4), rng.randint(0, 7))
            recipes = tuple(random_recipe(rng, len(works[0]), works[1], 2) for _ in range(rng.randint(0, 4)))
            found = asked(self, wanting, works, sender, recipes)
            self.assertEqual(found, slow_wanting(works, sender, recipes))
            seen = [seen[0] + (found == [()]), seen[1] + (found == []), seen[2] + bool(found and found[0])]
        self.assertGreater(min(seen), 5)

    def test_thirteen_recipes(self):
        rng = seeded(3802)
        for _ in range(4):
            further = tuple(random_recipe(rng, 5, FULL[1]) for _ in range(5))
            sender = weak_sender(rng, FULL, 10, 24)
            self.assertEqual(asked(self, wanting, FULL, sender, further), slow_wanting(FULL, sender, further))

    def test_too_many(self):
        full, over = circle(MANY, ((1,), (1,))), circle(MANY, ((1,), (1,)), 1)
        six = (HAND[2][0],) * 6
        self.assertEqual(asked(self, wanting, HAND, over, six), (TooMany, {"most": 5}))
        self.assertEqual(asked(self, wanting, HAND, full, six), (TooMany, {"most": 5}))
        self.assertEqual(asked(self, wanting, HAND, over, six[:5]), (TooMany, {"most": 2000}))
        self.assertEqual(asked(self, wanting, HAND, over, ()), (TooMany, {"most": 2000}))
        self.assertEqual(asked(self, wanting, HAND, full, six[:5]), [()])
        self.assertEqual(asked(self, barring, HAND, over, 4), (TooMany, {"most": 3}))
        self.assertEqual(asked(self, barring, HAND, full, 4), (TooMany, {"most": 3}))
        for most in range(4):
            self.assertEqual(asked(self, barring, HAND, over, most), (TooMany, {"most": 2000}))
            self.assertEqual(asked(self, barring, HAND, full, most), [()])
        self.assertEqual(asked(self, bad_rings, HAND, over), (TooMany, {"most": 2000}))
        self.assertEqual(asked(self, bad_rings, HAND, full), [])


class BarringTest(unittest.TestCase):

    def check(self, works, sender, most=3):
        bad = asked(self, bad_rings, works, sender)
        self.assertEqual(bad, [ring for ring in rings_of(sender) if can_work_off(works, *sum_of(works, sender, ring)) is None])
        self.assertIs(holds(works, sender), bad == [])
        for many in range(most + 1):
            found = asked(self, barring, works, sender, many)
            self.assertEqual(found, slow_barring(works, sender, many))
        return bad, found

    def test_none_bad(self):
        self.assertEqual(self.check(HAND, (1, ())), ([], [()]))
        self.assertEqual(self.check(BARE, (1, ((0, 0, (0,), ()),))), ([], [()]))

    def test_most_is_the_most(self):
        three = (1, ((0, 0, (1,), (0,)),) * 3)
        self.assertEqual(self.check(HAND, three), ([(0,), (1,), (2,)], [(0, 1, 2)]))
        self.assertEqual([barring(HAND, three, most) for most in range(4)], [[], [], [], [(0, 1, 2)]])
        self.assertEqual(self.check(HAND, (1, three[1] + three[1][:1]))[1], [])

    def test_places_that_are_no_more_come_to(self):
        # Without arrow 0 the ring at 1 is not come to.
        away = (2, ((0, 1, (9,), (0,)), (1, 1, (1,), (0,)), (0, 0, (0,), (0,))))
        self.assertEqual(self.check(HAND, away), ([(1,)], [(0,), (1,)]))
        twice = (2, away[1] + ((0, 1, (0,), (0,)),))
        self.assertEqual(self.check(HAND, twice), ([(1,)], [(0, 3), (1,)]))
        # A ring that is not come to at all is none.
        self.assertEqual(self.check(HAND, (3, away[1][:1] + ((2, 2, (1,), (0,)),))), ([], [()]))
        # Two rings behind one arrow.
        chain = (4, ((0, 1, (0,), (0,)), (1, 1, (1,), (0,)), (1, 2, (0,), (0,)), (2, 2, (1,), (0,))))
        self.assertEqual(self.check(HAND, chain), ([(1,), (3,)], [(0,), (1, 2), (1, 3)]))

    def test_many(self):
        rng = seeded(3803)
        seen = [0, 0]
        for _ in range(80):
            works = random_works(rng, most=2)
            sender = weak_sender(rng, works, rng.randint(1, 4), rng.randint(1, 7))
            bad, found = self.check(works, sender)
            seen = [seen[0] + (len(bad) > 1), seen[1] + (len(found) > 1)]
        self.assertGreater(min(seen), 10)
        self.check(WORKS, RINGS)

    def test_up_to_the_bounds(self):
        rng = seeded(3804)
        sender = weak_sender(rng, OTHER, 10, 24)
        bad, _ = self.check(OTHER, sender, 2)
        self.assertTrue(bad)
        gaining = circle(MANY, ((1,), (0,)))
        self.assertEqual(len(bad_rings(HAND, gaining)), 2000)
        self.assertEqual(barring(HAND, gaining, 3), [(0, 1), (2, 3), (4, 5), (6, 7)])


if __name__ == "__main__":
    unittest.main()
