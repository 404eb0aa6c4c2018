"""[39], and [9] as far as it speaks of it: what has to be thrown away, and what that costs."""

import unittest
from fractions import Fraction

from neverheaps.errors import TooMany
from neverheaps.forms import is_tariff
from neverheaps.held import holds
from neverheaps.loss import (
    is_loss_shares, is_loss_tariff, least_loss, loss_shares, loss_tariff, ring_loss, worst_ring,
)
from neverheaps.rings import rings_of, sum_of
from neverheaps.tariffs import book_of, is_fair, pay, worth
from neverheaps.ways import can_work_off
from tests.samples import BARE, FULL, MANY, RINGS, SENDER, WORKS, any_values, asked, circle, otherwise, random_works, seeded
from tests.test_held import weak_sender
from tests.test_ways import slow_is_worked_off

LOSING = (("a", "b"), ("h",), (((1, 0), (0, 0), "h"), ((2, 0), (0, 1), None)))
LOOP = (1, ((0, 0, (3, 0), (1,)),))
HAND = (("a",), ("h",), (((1,), (0,), "h"),))


def fraction(told):
    return Fraction(*told)


def slow_is_loss_shares(works, sender, ring, thrown, shares):
    """Whether, less the thrown things, the crews work off what the ring brings, many times over."""
    amounts, crew = sum_of(works, sender, ring)
    left = tuple(Fraction(many) - fraction(gone) for many, gone in zip(amounts, thrown))
    return min(map(fraction, thrown + shares), default=0) >= 0 and slow_is_worked_off(works, left, crew, shares)


def cost_of(thrown, costs):
    return sum(fraction(many) * cost for many, cost in zip(thrown, costs))


def random_costs(rng, works):
    return tuple(rng.choice((0, rng.randint(1, 5), rng.randint(0, 10 ** 9))) for _ in works[0])


class LossTest(unittest.TestCase):

    def check(self, works, sender, ring, costs):
        """The loss of a ring, which is proved: just so much is thrown, and nothing less can be."""
        loss = asked(self, ring_loss, works, sender, ring, costs)
        told = asked(self, loss_shares, works, sender, ring, costs)
        thrown, shares = told
        self.assertEqual((len(thrown), len(shares)), (len(works[0]), len(works[2])))
        self.assertTrue(slow_is_loss_shares(works, sender, ring, thrown, shares))
        self.assertIs(asked(self, is_loss_shares, works, sender, ring, told), True)
        self.assertEqual(cost_of(thrown, costs), fraction(loss))
        proof = asked(self, loss_tariff, works, sender, ring, costs)
        self.assertEqual(proof is None, loss == (0, 1))
        if proof is not None:
            scale, tariff = proof
            amounts, crew = sum_of(works, sender, ring)
            self.assertTrue(type(scale) is int and scale >= 1 and is_tariff(works, tariff) and is_fair(works, tariff))
            self.assertTrue(all(price <= scale * cost for price, cost in zip(tariff[0], costs)))
            self.assertEqual(worth(tariff, amounts) - pay(tariff, crew), scale * fraction(loss))
            self.assertIs(asked(self, is_loss_tariff, works, sender, ring, costs, proof), True)
        return loss

    def test_the_example(self):
        self.assertEqual(self.check(LOSING, LOOP, (0,), (5, 1)), (1, 1))
        self.assertEqual(loss_shares(LOSING, LOOP, (0,), (5, 1)), (((0, 1), (1, 1)), ((1, 1), (1, 1))))
        self.assertEqual(least_loss(LOSING, LOOP, (5, 1)), (1, 1))
        self.assertIs(is_loss_tariff(LOSING, LOOP, (0,), (5, 1), (2, ((1, 2), (1,)))), True)

    def test_as_it_comes_or_half_done(self):
        self.assertEqual(self.check(LOSING, LOOP, (0,), (1, 9)), (2, 1))
        self.assertEqual(self.check(LOSING, LOOP, (0,), (1, 2)), (2, 1))
        self.assertEqual(self.check(LOSING, LOOP, (0,), (2, 3)), (3, 1))
        self.assertEqual(self.check(LOSING, (1, ((0, 0, (2, 0), (1,)),)), (0,), (2, 3)), (3, 2))

    def test_costs_of_nothing(self):
        self.assertEqual(self.check(LOSING, LOOP, (0,), (0, 0)), (0, 1))
        self.assertEqual(self.check(LOSING, LOOP, (0,), (0, 7)), (0, 1))
        self.assertEqual(self.check(LOSING, LOOP, (0,), (7, 0)), (0, 1))
        self.assertEqual(self.check(BARE, (1, ((0, 0, (4,), ()),)), (0,), (0,)), (0, 1))

    def test_rings_without_loss(self):
        sender = (1, ((0, 0, (1, 0), (1,)), (0, 0, (0, 0), (0,))))
        for ring in ((0,), (1,)):
            self.assertEqual(self.check(LOSING, sender, ring, (5, 1)), (0, 1))
            for thing in ((1, ((0, 0), (1,))), (1, ((1, 2), (1,))), (1, ((1, 1), (1,))), (2, ((1, 2), (1,))), (1, ((-1, 0), (0,)))):
                self.assertIs(is_loss_tariff(LOSING, sender, ring, (5, 1), thing), False)

    def test_without_recipes(self):
        self.assertEqual(self.check(BARE, (1, ((0, 0, (4,), ()),)), (0,), (3,)), (12, 1))
        hands = (("a", "b"), ("h",), ())
        self.assertEqual(self.check(hands, (1, ((0, 0, (4, 1), (9,)),)), (0,), (3, 10 ** 9)), (12 + 10 ** 9, 1))

    def test_many_rings(self):
        rng = seeded(3901)
        seen = {True: 0, False: 0}
        for _ in range(200):
            works = random_works(rng, most=rng.choice((1, 2, 4)))
            sender = weak_sender(rng, works, rng.randint(1, 4), rng.randint(1, 8))
            costs = random_costs(rng, works)
            for ring in rings_of(sender)[:6]:
                loss = self.check(works, sender, ring, costs)
                if can_work_off(works, *sum_of(works, sender, ring)) is not None:
                    self.assertEqual(loss, (0, 1))
                elif min(costs) > 0:
                    self.assertGreater(loss[0], 0)
                seen[loss == (0, 1)] += 1
        self.assertGreater(min(seen.values()), 50)

    def test_a_loss_is_the_greatest_gain_by_tariffs_within_the_costs(self):
        # [9], by tariffs of the book, put within the costs.
        rng = seeded(3902)
        for _ in range(100):
            works = random_works(rng, most=2)
            sender = weak_sender(rng, works, 2, 5)
            costs = tuple(rng.randint(0, 4) for _ in works[0])
            for ring in rings_of(sender)[:4]:
                amounts, crew = sum_of(works, sender, ring)
                loss = fraction(ring_loss(works, sender, ring, costs))
                for tariff in book_of(works):
                    over = [Fraction(price, cost) if cost else None for price, cost in zip(tariff[0], costs) if price > 0]
                    if over and None not in over:
                        self.assertLessEqual((worth(tariff, amounts) - pay(tariff, crew)) / max(over), loss)

    def test_great_costs_and_rings(self):
        rng = seeded(3903)
        for _ in range(20):
            works = random_works(rng, 5, 3, 8)
            arrows = tuple((at, (at + 1) % 10, tuple(rng.randint(0, 9) for _ in range(5)), tuple(rng.randint(0, 9) for _ in range(3)))
                           for at in range(10))
            self.check(works, (10, arrows), tuple(range(10)), tuple(rng.randint(0, 10 ** 9) for _ in range(5)))


class JudgedTest(unittest.TestCase):

    def test_shares_with_one_part_otherwise(self):
        good = loss_shares(LOSING, LOOP, (0,), (5, 1))
        for thing in list(otherwise(good)) + any_values():
            self.assertIs(is_loss_shares(LOSING, LOOP, (0,), thing), False)

    def test_shares_by_their_words(self):
        # All thrown as it comes, some by hand, and more hands than there are.
        for thing, fits in (
            ((((3, 1), (0, 1)), ((0, 1), (0, 1))), True), ((((2, 1), (0, 1)), ((1, 1), (0, 1))), True),
            ((((5, 2), (0, 1)), ((1, 2), (0, 1))), True), ((((0, 1), (3, 2)), ((0, 1), (3, 2))), True),
            ((((0, 1), (0, 1)), ((3, 1), (0, 1))), False), ((((1, 1), (0, 1)), ((2, 1), (0, 1))), False),
            ((((0, 1), (0, 1)), ((1, 1), (1, 1))), False), ((((4, 1), (0, 1)), ((-1, 1), (0, 1))), False),
            ((((0, 1), (-1, 1)), ((5, 1), (-1, 1))), False), ((((6, 2), (0, 1)), ((0, 1), (0, 1))), False),
            ((((3, 1), (0, 2)), ((0, 1), (0, 1))), False), ((((-3, -1), (0, 1)), ((0, 1), (0, 1))), False),
            ((((3, 1),), ((0, 1), (0, 1))), False), ((((3, 1), (0, 1), (0, 1)), ((0, 1), (0, 1))), False),
            ((((3, 1), (0, 1)), ((0, 1),)), False), (((3, 0), ((0, 1), (0, 1))), False),
            ((((3, 1), (0, 1)), ((0, 1), (0, 1)), None), False), ((((3, 1), (0, 1)),), False),
            ([((3, 1), (0, 1)), ((0, 1), (0, 1))], False), ((((3, True), (0, 1)), ((0, 1), (0, 1))), False),
        ):
            self.assertIs(asked(self, is_loss_shares, LOSING, LOOP, (0,), thing), fits, thing)
        self.assertIs(is_loss_shares(BARE, (1, ((0, 0, (1,), ()),)), (0,), (((1, 1),), ())), True)
        self.assertIs(is_loss_shares(BARE, (1, ((0, 0, (1,), ()),)), (0,), (((2, 2),), ())), False)

    def test_shares_of_many_rings(self):
        rng = seeded(3904)
        seen = {True: 0, False: 0}
        for _ in range(150):
            works = random_works(rng, kinds=2, hands=1, recipes=2, most=2)
            sender = weak_sender(rng, works, 2, 4)
            for ring in rings_of(sender)[:3]:
                thrown, shares = loss_shares(works, sender, ring, (1, 2))
                for part in (0, 1):
                    for at in range(2):
                        for by in (Fraction(1), Fraction(-1, 2)):
                            both = [list(map(fraction, thrown)), list(map(fraction, shares))]
                            both[part][at] += by
                            # What is done more or less often comes out of what is thrown.
                            if part == 1:
                                takes, puts, _ = works[2][at]
                                both[0] = [many - by * (taken - put) for many, taken, put in zip(both[0], takes, puts)]
                            other = tuple(tuple((item.numerator, item.denominator) for item in row) for row in both)
                            fits = is_loss_shares(works, sender, ring, other)
                            self.assertIs(fits, slow_is_loss_shares(works, sender, ring, *other))
                            seen[fits] += 1
        self.assertGreater(min(seen.values()), 50)

    def test_tariffs_with_one_part_otherwise(self):
        for thing in list(otherwise((2, ((1, 2), (1,))))) + any_values():
            self.assertIs(is_loss_tariff(LOSING, LOOP, (0,), (5, 1), thing), False)

    def test_tariffs_by_their_words(self):
        for thing, fits in (
            ((2, ((1, 2), (1,))), True), ((4, ((2, 4), (2,))), True), ((200, ((100, 200), (100,))), True), ((3, ((1, 2), (1,))), False),
            ((1, ((1, 2), (1,))), False), ((0, ((1, 2), (1,))), False), ((0, ((0, 0), (1,))), False), ((-2, ((1, 2), (1,))), False),
            ((2, ((1, 2), (0,))), False), ((2, ((2, 2), (4,))), False), ((2, ((1, 3), (1,))), False), ((2, ((0, 0), (0,))), False),
            ((-2, ((-1, -2), (-1,))), False), ((2, ((1, 2), (1,)), 0), False), ((2,), False), ((True, ((1, 2), (1,))), False),
        ):
            self.assertIs(asked(self, is_loss_tariff, LOSING, LOOP, (0,), (5, 1), thing), fits, thing)
        self.assertIs(is_loss_tariff(HAND, (1, ((0, 0, (2,), (1,)),)), (0,), (3,), (1, ((3,), (3,)))), True)
        # By a scale of 0 and a price below 0 nothing is gained, which proves nothing.
        bare = (("a", "b"), ("h",), (((1, 0), (0, 0), "h"),))
        loop = (1, ((0, 0, (2, 0), (1,)),))
        for scale in (0, -1, -7):
            for price in (0, -1, -3, -21):
                self.assertIs(is_loss_tariff(bare, loop, (0,), (3, 0), (scale, ((0, price), (0,)))), False)
                self.assertIs(is_loss_tariff(bare, loop, (0,), (3, 0), (scale, ((price, price), (0,)))), False)
        self.assertIs(is_loss_tariff(bare, loop, (0,), (3, 0), (1, ((3, -1), (3,)))), True)
        # A price above its cost, by which the gain would be just so much.
        self.assertIs(is_loss_tariff(HAND, (1, ((0, 0, (2,), (0,)),)), (0,), (3,), (1, ((3,), (9,)))), True)
        self.assertIs(is_loss_tariff(HAND, (1, ((0, 0, (2,), (1,)),)), (0,), (3,), (2, ((6,), (6,)))), True)
        self.assertIs(is_loss_tariff(HAND, (1, ((0, 0, (2,), (1,)),)), (0,), (3,), (1, ((4,), (5,)))), False)


class LeastLossTest(unittest.TestCase):

    def check(self, works, sender, costs):
        """The greatest loss a beat, and the least ring that has it."""
        means = [(fraction(ring_loss(works, sender, ring, costs)) / len(ring), ring) for ring in rings_of(sender)]
        greatest = max([mean for mean, _ in means], default=Fraction(0))
        told = asked(self, least_loss, works, sender, costs)
        self.assertEqual(told, (greatest.numerator, greatest.denominator))
        worst = asked(self, worst_ring, works, sender, costs)
        self.assertEqual(worst, min([ring for mean, ring in means if mean == greatest], default=None))
        return told, worst

    def test_without_rings(self):
        self.assertEqual(self.check(HAND, (1, ()), (5,)), ((0, 1), None))
        self.assertEqual(self.check(HAND, (3, ((0, 1, (9,), (0,)), (2, 2, (9,), (0,)))), (5,)), ((0, 1), None))

    def test_the_least_of_several(self):
        loops = (2, ((0, 1, (3,), (0,)), (1, 0, (0,), (1,)), (1, 1, (1,), (0,)), (0, 0, (2,), (1,)), (0, 0, (0,), (0,))))
        self.assertEqual(self.check(HAND, loops, (5,)), ((5, 1), (0, 1)))
        self.assertEqual(self.check(HAND, (2, loops[1][2:]), (5,)), ((5, 1), (1,)))
        self.assertEqual(self.check(HAND, (1, loops[1][4:]), (5,)), ((0, 1), (0,)))
        # By costs of 0 all rings are alike.
        self.assertEqual(self.check(HAND, loops, (0,)), ((0, 1), (0, 1)))
        self.assertEqual(self.check(HAND, (2, loops[1][:3]), (2,)), ((2, 1), (0, 1)))

    def test_many(self):
        rng = seeded(3905)
        above = 0
        for _ in range(150):
            works = random_works(rng, most=rng.choice((1, 2)))
            sender = weak_sender(rng, works, rng.randint(1, 4), rng.randint(0, 8))
            costs = tuple(rng.randint(0, 3) for _ in works[0])
            (num, _), _ = self.check(works, sender, costs)
            above += num > 0
            # [9], [5]: nothing is lost where all is held, and something where all costs and it is not.
            if holds(works, sender):
                self.assertEqual(num, 0)
            elif min(costs) > 0:
                self.assertGreater(num, 0)
        self.assertGreater(above, 30)
        self.check(WORKS, RINGS, (3, 2, 1))
        self.check(WORKS, SENDER, (1, 1, 1))

    def test_too_many(self):
        for function in (least_loss, worst_ring):
            self.assertEqual(asked(self, function, HAND, circle(MANY, ((1,), (0,)), 1), (3,)), (TooMany, {"most": 2000}))
        self.assertEqual(least_loss(HAND, circle(MANY, ((1,), (0,))), (3,)), (3, 1))
        self.assertEqual(worst_ring(HAND, circle(MANY, ((1,), (0,))), (3,)), (0, 2, 4, 6, 8, 13, 18))

    def test_up_to_the_bounds(self):
        rng = seeded(3906)
        places, arrows = circle(MANY)
        loads = [(tuple(rng.randint(0, 9) for _ in range(5)), tuple(rng.randint(0, 9) for _ in range(3))) for _ in arrows]
        sender = (places, tuple(arrow[:2] + load for arrow, load in zip(arrows, loads)))
        costs = tuple(rng.randint(0, 10 ** 9) for _ in range(5))
        told, worst = least_loss(FULL, sender, costs), worst_ring(FULL, sender, costs)
        self.assertEqual(fraction(ring_loss(FULL, sender, worst, costs)) / len(worst), fraction(told))


if __name__ == "__main__":
    unittest.main()
