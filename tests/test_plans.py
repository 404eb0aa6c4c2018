"""[26]: plans of rings, told and judged."""

import unittest

from neverheaps.errors import Gains
from neverheaps.forms import is_tariff
from neverheaps.plans import is_plan, plan_of, row_deeds
from neverheaps.rings import gain_of, rings_of, sum_of
from neverheaps.tariffs import is_fair
from neverheaps.ways import can_work_off
from neverheaps.works import levels
from tests.samples import BARE, FULL, WORKS, any_values, asked, otherwise, random_works, seeded
from tests.test_held import weak_sender

ONE = (("a",), ("h",), (((1,), (0,), "h"),))
TURN = (2, ((0, 1, (1,), (0,)), (1, 0, (0,), (1,)), (1, 1, (2,), (1,))))
# Two recipes that want one hand, one that wants another one, and one that wants none.
MIXED = (
    ("a", "b"), ("h", "k"),
    (((2, 0), (0, 1), "h"), ((0, 1), (0, 0), "k"), ((1, 0), (0, 0), "h"), ((0, 3), (0, 0), None)),
)
BOTH = (2, ((0, 1, (4, 0), (1, 0)), (1, 0, (0, 3), (2, 2))))


def slow_is_plan(works, sender, ring, plan):
    """Whether a plan that has the right form is one, word by word."""
    times, rows, free = plan
    if times < 1 or min([many for row in rows + (free,) for many in row], default=0) < 0:
        return False
    for at, (_, _, hand) in enumerate(works[2]):
        if hand is None and any(row[at] for row in rows) or hand is not None and free[at]:
            return False
    for index, row in zip(ring, rows):
        for place, name in enumerate(works[1]):
            used = sum(many for many, recipe in zip(row, works[2]) if recipe[2] == name)
            if used > times * sender[1][index][3][place]:
                return False
    for kind in range(len(works[0])):
        gone = sum(row[at] * (takes[kind] - puts[kind]) for row in rows + (free,) for at, (takes, puts, _) in enumerate(works[2]))
        if gone != times * sum(sender[1][index][2][kind] for index in ring):
            return False
    return True


class PlansTest(unittest.TestCase):

    def check(self, works, sender, ring):
        """The plan of the ring, or None if it gains."""
        told = asked(self, plan_of, works, sender, ring)
        if told[0] == Gains:
            error = told[1]
            self.assertEqual(error["ring"], ring)
            self.assertTrue(is_tariff(works, error["tariff"]) and is_fair(works, error["tariff"]))
            self.assertGreater(gain_of(sender, error["tariff"], ring), 0)
            return None
        self.assertTrue(slow_is_plan(works, sender, ring, told))
        self.assertIs(asked(self, is_plan, works, sender, ring, told), True)
        return told

    def test_the_example(self):
        self.assertEqual(self.check(ONE, TURN, (0, 1)), (1, ((0,), (1,)), (0,)))
        self.assertIs(is_plan(ONE, TURN, (0, 1), (1, ((1,), (0,)), (0,))), False)
        self.assertIsNone(self.check(ONE, TURN, (2,)))

    def test_shares_that_are_no_integers(self):
        two = (("a",), ("h",), (((2,), (0,), "h"),))
        sender = (1, ((0, 0, (1,), (1,)),))
        times, rows, free = self.check(two, sender, (0,))
        self.assertEqual([2 * rows[0][0], free], [times, (0,)])
        self.assertIs(is_plan(two, sender, (0,), (2, ((1,),), (0,))), True)
        self.assertIs(is_plan(two, sender, (0,), (4, ((2,),), (0,))), True)
        self.assertIs(is_plan(two, sender, (0,), (1, ((1,),), (0,))), False)

    def test_hands_of_several_arrows(self):
        self.assertIsNotNone(self.check(MIXED, BOTH, (0, 1)))
        tight = (3, ((0, 1, (6, 0), (1, 0)), (1, 2, (0, 0), (0, 3)), (2, 0, (0, 0), (2, 0))))
        times, rows, free = self.check(MIXED, tight, (0, 1, 2))
        self.assertEqual([rows[0][0], rows[2][0], free[1]], [times, 2 * times, 0])

    def test_many_rings(self):
        rng = seeded(2601)
        seen = {True: 0, False: 0}
        for _ in range(250):
            works = random_works(rng, most=rng.choice((1, 2, 4)))
            sender = weak_sender(rng, works, rng.randint(1, 4), rng.randint(1, 8))
            for ring in rings_of(sender)[:8]:
                told = self.check(works, sender, ring)
                self.assertEqual(told is None, can_work_off(works, *sum_of(works, sender, ring)) is None)
                seen[told is None] += any(sum_of(works, sender, ring)[0])
        self.assertGreater(min(seen.values()), 50)

    def test_without_recipes(self):
        self.assertEqual(self.check(BARE, (1, ((0, 0, (0,), ()),)), (0,)), (1, ((),), ()))
        self.assertIsNone(self.check(BARE, (1, ((0, 0, (1,), ()),)), (0,)))
        self.assertIs(is_plan(BARE, (1, ((0, 0, (0,), ()),)), (0,), (7, ((),), ())), True)


class IsPlanTest(unittest.TestCase):

    def test_one_integer_otherwise(self):
        times, rows, free = plan_of(MIXED, BOTH, (0, 1))
        seen = {True: 0, False: 0}
        for by in (-1, 1, 2):
            changed = [(times + by, rows, free)]
            for recipe in range(4):
                changed.append((times, rows, free[:recipe] + (free[recipe] + by,) + free[recipe + 1:]))
                for at, row in enumerate(rows):
                    other = row[:recipe] + (row[recipe] + by,) + row[recipe + 1:]
                    changed.append((times, rows[:at] + (other,) + rows[at + 1:], free))
            for plan in changed:
                fits = asked(self, is_plan, MIXED, BOTH, (0, 1), plan)
                self.assertIs(fits, slow_is_plan(MIXED, BOTH, (0, 1), plan))
                seen[fits] += 1
        self.assertEqual(seen[True], 0)

    def test_words(self):
        sender = (2, ((0, 1, (2, 0), (1, 0)), (1, 0, (0, 3), (2, 2))))
        good = [(1, ((0,) * 4, (1, 1, 0, 0)), (0, 0, 0, 1)), (1, ((1, 0, 0, 0), (0, 1, 0, 0)), (0, 0, 0, 1)),
                (1, ((0, 0, 1, 0), (0, 0, 1, 0)), (0, 0, 0, 1)), (2, ((1, 0, 1, 0), (0, 1, 1, 0)), (0, 0, 0, 2))]
        bad = [(1, ((0,) * 4, (1, 1, 0, 1)), (0, 0, 0, 0)), (1, ((0,) * 4, (0, 1, 0, 0)), (1, 0, 0, 1)),
               (1, ((0, 0, 2, 0), (0, 0, 0, 0)), (0, 0, 0, 1)), (1, ((0, 1, 0, 0), (1, 0, 0, 0)), (0, 0, 0, 1)),
               (1, ((0,) * 4, (1, 1, 0, 0)), (0, 0, 0, 0)), (2, ((0,) * 4, (1, 1, 0, 0)), (0, 0, 0, 1)),
               (0, ((0,) * 4, (0,) * 4), (0,) * 4), (-1, ((0,) * 4, (0,) * 4), (0,) * 4), (1, ((0,) * 4,), (0,) * 4),
               (1, ((0,) * 4, (1, 1, 0, 0), (0,) * 4), (0, 0, 0, 1)), (1, ((0,) * 5, (1, 1, 0, 0)), (0, 0, 0, 1)),
               (1, ((0,) * 4, (1, 1, 0, 0)), (0, 0, 0, 1, 0)), (1, ((0,) * 4, (1, 1, -1, 0)), (0, 0, 0, 1)),
               (1, ((0,) * 4, (1, 1, 0, 0))), (1, ((0,) * 4, (1, 1, 0, 0)), (0, 0, 0, 1), ())]
        for plan in good:
            self.assertIs(asked(self, is_plan, MIXED, sender, (0, 1), plan), True)
        for plan in bad:
            self.assertIs(asked(self, is_plan, MIXED, sender, (0, 1), plan), False)

    def test_any_value(self):
        plan = plan_of(MIXED, BOTH, (0, 1))
        for thing in list(otherwise(plan)) + any_values():
            self.assertIs(is_plan(MIXED, BOTH, (0, 1), thing), False)
        self.assertIs(is_plan(ONE, TURN, (0, 1), (True, ((0,), (1,)), (0,))), False)
        self.assertIs(is_plan(ONE, TURN, (0, 1), (1, ((0,), (True,)), (0,))), False)
        self.assertIs(is_plan(ONE, TURN, (0, 1), (10 ** 39, ((0,), (10 ** 39,)), (0,))), True)


class RowDeedsTest(unittest.TestCase):

    def test_by_depth_then_by_index(self):
        self.assertEqual(asked(self, row_deeds, ONE, (3,)), (0, 0, 0))
        self.assertEqual(asked(self, row_deeds, ONE, (0,)), ())
        self.assertEqual(asked(self, row_deeds, BARE, ()), ())
        self.assertEqual(asked(self, row_deeds, MIXED, (1, 2, 2, 1)), (0, 2, 2, 1, 1, 3))
        turned = (("a", "b"), (), (((0, 1), (0, 0), None), ((1, 0), (0, 1), None), ((0, 2), (0, 0), None), ((1, 0), (0, 0), None)))
        self.assertEqual(asked(self, row_deeds, turned, (2, 1, 1, 2)), (1, 3, 3, 0, 0, 2))
        self.assertEqual(row_deeds(WORKS, (1, 0)), (0,))

    def test_many(self):
        rng = seeded(2602)
        for works in [FULL] + [random_works(rng) for _ in range(50)]:
            counts = tuple(rng.randint(0, 3) for _ in works[2])
            deeds = row_deeds(works, counts)
            self.assertEqual([deeds.count(index) for index in range(len(counts))], list(counts))
            depths = levels(works)
            self.assertEqual(list(deeds), sorted(deeds, key=lambda index: (depths[index], index)))


if __name__ == "__main__":
    unittest.main()
