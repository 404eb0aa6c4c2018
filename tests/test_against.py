"""[36], and [5] and [6] as far as they speak of it: works against works."""

import itertools
import unittest

from neverheaps.against import are_alike, bears_all, joint_works, parting_sender, parting_tariff, way_between
from neverheaps.errors import TooMany
from neverheaps.forms import is_sender, is_tariff
from neverheaps.held import holds
from neverheaps.rings import gain_of
from neverheaps.tariffs import is_fair
from neverheaps.ways import can_work_off, ways_of
from tests.samples import BARE, FULL, WORKS, asked, random_recipe, random_works, seeded

BOTH, ALONE = ((1, 1), (0, 0), None), ((1, 0), (0, 0), "h")
ONE, OTHER = (("a", "b"), ("h",), (BOTH,)), (("a", "b"), ("h",), (BOTH, ALONE))


def with_recipes(works, recipes):
    return works[0], works[1], tuple(recipes)


def slow_way_between(one, other):
    """The least way of other that one does not work off, by shares."""
    return min([way for way in ways_of(other) if can_work_off(one, *way) is None], default=None)


def other_works(rng, works, most):
    """A works with the same kinds and hands, and with some of the recipes, turned about, and some other ones."""
    kept = [recipe for recipe in works[2] if rng.random() < 0.8]
    made = [random_recipe(rng, len(works[0]), works[1], most) for _ in range(rng.randint(0, 8 - len(kept)))]
    return with_recipes(works, rng.sample(kept + made, len(kept + made)))


class AgainstTest(unittest.TestCase):

    def check(self, one, other):
        """Whether one bears other: told alike by all functions, and proved."""
        told = asked(self, way_between, one, other)
        bears = asked(self, bears_all, one, other)
        sender, tariff = asked(self, parting_sender, one, other), asked(self, parting_tariff, one, other)
        self.assertIs(bears, told is None)
        self.assertEqual(told, slow_way_between(one, other))
        self.assertEqual([sender is None, tariff is None], [bears, bears])
        if not bears:
            self.assertEqual(sender, (1, ((0, 0) + told,)))
            self.assertTrue(is_sender(one, sender))
            self.assertEqual([holds(other, sender), holds(one, sender)], [True, False])
            self.assertTrue(is_tariff(one, tariff) and is_fair(one, tariff))
            self.assertGreater(gain_of(sender, tariff, (0,)), 0)
        return bears

    def test_the_example(self):
        self.assertIs(self.check(OTHER, ONE), True)
        self.assertIs(self.check(ONE, OTHER), False)
        self.assertEqual(way_between(ONE, OTHER), ((1, 0), (1,)))
        self.assertEqual(parting_sender(ONE, OTHER), (1, ((0, 0, (1, 0), (1,)),)))
        self.assertIs(are_alike(ONE, OTHER), False)

    def test_recipes_in_another_order_chained_and_doubled(self):
        rng = seeded(3601)
        for works in (WORKS, FULL, OTHER):
            for _ in range(5):
                turned = with_recipes(works, rng.sample(works[2], len(works[2])))
                self.assertIs(asked(self, are_alike, works, turned), True)
                self.assertIs(self.check(works, turned) and self.check(turned, works), True)
        doubled = with_recipes(OTHER, OTHER[2] * 4)
        self.assertIs(are_alike(doubled, OTHER), True)
        # What is made on the way can as well be taken at once; but what goes half the way only cannot.
        chain = (("a", "b"), ("h",), (((1, 0), (0, 1), "h"), ((0, 1), (0, 0), None)))
        once = (("a", "b"), ("h",), (((1, 0), (0, 0), "h"),))
        self.assertEqual([self.check(chain, once), self.check(once, chain)], [True, False])
        self.assertEqual(way_between(once, chain), ((0, 1), (0,)))
        self.assertIs(are_alike(chain, with_recipes(chain, chain[2] + once[2])), True)
        # Two at a time by two hands are one at a time by one.
        twice = with_recipes(once, [((2, 0), (0, 0), "h")])
        self.assertEqual([self.check(twice, once), self.check(once, twice)], [True, False])

    def test_without_recipes_and_without_hands(self):
        empty = with_recipes(OTHER, ())
        self.assertEqual([self.check(empty, OTHER), self.check(OTHER, empty), self.check(empty, empty)], [False, True, True])
        self.assertIs(are_alike(empty, empty), True)
        # What never can go out has no ways.
        stuck = with_recipes(OTHER, [((1, 0), (0, 1), "h")])
        self.assertEqual([self.check(empty, stuck), are_alike(empty, stuck)], [ways_of(stuck) == [], ways_of(stuck) == []])
        self.assertIs(self.check(BARE, BARE), True)
        free = (("a",), (), (((3,), (0,), None),))
        self.assertEqual([self.check(free, BARE), self.check(BARE, free), are_alike(free, BARE)], [True, False, False])
        self.assertIs(are_alike(free, (("a",), (), (((1,), (0,), None),))), True)

    def test_neither_bears_the_other(self):
        one, other = with_recipes(ONE, [((1, 0), (0, 0), "h")]), with_recipes(ONE, [((0, 1), (0, 0), "h")])
        self.assertEqual([self.check(one, other), self.check(other, one), are_alike(one, other)], [False, False, False])
        self.assertEqual([way_between(one, other), way_between(other, one)], [((0, 1), (1,)), ((1, 0), (1,))])

    def test_many(self):
        rng = seeded(3602)
        seen = {True: 0, False: 0}
        for _ in range(250):
            one = random_works(rng, most=rng.choice((1, 2, 4)))
            other = other_works(rng, one, rng.choice((1, 2)))
            bears = self.check(one, other)
            self.assertIs(asked(self, are_alike, one, other), bears and bears_all(other, one))
            seen[bears] += bool(ways_of(other))
        self.assertGreater(min(seen.values()), 40)

    def test_one_bears_other_if_it_holds_all_senders_that_other_holds(self):
        # [6], over all small arrows that stand alone.
        rng = seeded(3603)
        seen = {True: 0, False: 0}
        for _ in range(60):
            other = random_works(rng, kinds=2, hands=1, recipes=rng.randint(1, 3), most=2)
            one = other_works(rng, other, 1)
            senders = [(1, ((0, 0, amounts, crew),)) for amounts in itertools.product(range(4), repeat=2)
                       for crew in itertools.product(range(4), repeat=1)]
            broken = [sender for sender in senders if holds(other, sender) and not holds(one, sender)]
            bears = bears_all(one, other)
            seen[bears] += 1
            if bears:
                self.assertEqual(broken, [])
        self.assertGreater(min(seen.values()), 5)

    def test_up_to_the_bounds(self):
        rng = seeded(3604)
        for _ in range(10):
            one, other = random_works(rng, 5, 3, 8), random_works(rng, 5, 3, 8)
            other = (one[0], one[1], other[2])
            self.check(one, other)
            self.assertIs(self.check(one, one), True)

    def test_joint_works(self):
        self.assertEqual(asked(self, joint_works, ONE, OTHER), with_recipes(ONE, (BOTH, BOTH, ALONE)))
        self.assertEqual(asked(self, joint_works, OTHER, ONE), with_recipes(ONE, (BOTH, ALONE, BOTH)))
        self.assertEqual(asked(self, joint_works, BARE, BARE), BARE)
        self.assertEqual(asked(self, joint_works, FULL, with_recipes(FULL, ())), FULL)
        eight = with_recipes(ONE, [BOTH] * 7)
        self.assertEqual(len(joint_works(eight, ONE)[2]), 8)
        self.assertEqual(asked(self, joint_works, eight, OTHER), (TooMany, {"most": 8}))
        self.assertEqual(asked(self, joint_works, FULL, with_recipes(FULL, FULL[2][:1])), (TooMany, {"most": 8}))
        rng = seeded(3605)
        for _ in range(30):
            one = random_works(rng, recipes=rng.randint(0, 4))
            other = with_recipes(one, random_works(rng, len(one[0]), len(one[1]), rng.randint(0, 4))[2])
            joint = joint_works(one, other)
            self.assertTrue(bears_all(joint, one) and bears_all(joint, other))

    def test_joint_works_may_hold_more_than_both(self):
        one, other = with_recipes(ONE, [((1, 0), (0, 1), None)]), with_recipes(ONE, [((0, 1), (0, 0), None)])
        sender = (1, ((0, 0, (1, 0), (0,)),))
        self.assertEqual([holds(works, sender) for works in (one, other, joint_works(one, other))], [False, False, True])


if __name__ == "__main__":
    unittest.main()
