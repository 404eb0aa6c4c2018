"""[41], and [5] as far as it speaks of it: how many times the hands would do."""

import unittest
from fractions import Fraction

from neverheaps.errors import NeverHelps, TooMany
from neverheaps.factor import factor_tariff, least_factor, ring_factor
from neverheaps.forms import is_fraction, is_tariff
from neverheaps.held import holds
from neverheaps.rings import rings_of, sum_of
from neverheaps.tariffs import book_of, is_fair, pay, worth
from neverheaps.ways import can_work_off
from tests.samples import BARE, FULL, MANY, RINGS, SENDER, WORKS, asked, circle, random_works, seeded
from tests.test_held import weak_sender
from tests.test_loss import HAND, LOOP, LOSING


def times_many(amounts, crew, fraction):
    """So many times the amounts, and the crews so many times a fraction."""
    num, den = fraction
    return tuple(den * many for many in amounts), tuple(num * many for many in crew)


class FactorTest(unittest.TestCase):

    def check(self, works, sender, ring):
        """The factor of a ring, which is proved; None if hands never help."""
        amounts, crew = sum_of(works, sender, ring)
        told = asked(self, ring_factor, works, sender, ring)
        proof = asked(self, factor_tariff, works, sender, ring)
        if told[0] == NeverHelps:
            self.assertEqual(proof, told)
            self.assertEqual(told[1]["ring"], ring)
            tariff = told[1]["tariff"]
            self.assertTrue(is_tariff(works, tariff) and is_fair(works, tariff))
            self.assertTrue(worth(tariff, amounts) > 0 and pay(tariff, crew) == 0)
            return None
        self.assertTrue(is_fraction(told) and told[0] >= 0)
        self.assertIsNotNone(can_work_off(works, *times_many(amounts, crew, told)))
        self.assertEqual(proof is None, told == (0, 1))
        if proof is not None:
            self.assertTrue(is_tariff(works, proof) and is_fair(works, proof))
            self.assertGreater(pay(proof, crew), 0)
            self.assertEqual(worth(proof, amounts), Fraction(*told) * pay(proof, crew))
        return told

    def check_all(self, works, sender):
        """The greatest factor, or None if hands never help."""
        factors = [(ring, self.check(works, sender, ring)) for ring in rings_of(sender)]
        never = [ring for ring, factor in factors if factor is None]
        told = asked(self, least_factor, works, sender)
        if never:
            self.assertEqual([told[0], told[1]["ring"]], [NeverHelps, min(never)])
            tariff = told[1]["tariff"]
            amounts, crew = sum_of(works, sender, min(never))
            self.assertTrue(is_tariff(works, tariff) and is_fair(works, tariff))
            self.assertTrue(worth(tariff, amounts) > 0 and pay(tariff, crew) == 0)
            return None
        greatest = max([Fraction(*factor) for _, factor in factors], default=Fraction(0))
        self.assertEqual(told, (greatest.numerator, greatest.denominator))
        return told

    def test_the_example(self):
        self.assertEqual(self.check_all(LOSING, LOOP), (3, 1))

    def test_above_one_and_below(self):
        for many, crew, factor in ((3, 2, (3, 2)), (2, 2, (1, 1)), (2, 3, (2, 3)), (0, 3, (0, 1)), (0, 0, (0, 1)), (9, 1, (9, 1)), (1, 0, None)):
            self.assertEqual(self.check_all(HAND, (1, ((0, 0, (many,), (crew,)),))), factor)
        self.assertEqual(self.check_all(HAND, (2, ((0, 1, (3,), (0,)), (1, 0, (0,), (2,)), (1, 1, (1,), (4,))))), (3, 2))

    def test_without_rings(self):
        self.assertEqual(self.check_all(HAND, (1, ())), (0, 1))
        self.assertEqual(self.check_all(HAND, (3, ((0, 1, (5,), (0,)), (2, 2, (5,), (0,))))), (0, 1))
        self.assertEqual(self.check_all(BARE, (1, ())), (0, 1))

    def test_without_hands(self):
        free = (("a",), (), (((2,), (0,), None),))
        self.assertEqual(self.check_all(free, (1, ((0, 0, (5,), ()),))), (0, 1))
        self.assertIsNone(self.check_all(BARE, (1, ((0, 0, (5,), ()),))))
        self.assertEqual(self.check_all(BARE, (1, ((0, 0, (0,), ()),))), (0, 1))
        # Hands that no recipe wants help nothing.
        self.assertIsNone(self.check_all((("a",), ("h",), ()), (1, ((0, 0, (1,), (9,)),))))

    def test_the_least_ring_of_those_that_are_never_helped(self):
        loops = ((0, 0, (1,), (1,)), (0, 0, (2,), (0,)), (0, 0, (1,), (0,)))
        error = asked(self, least_factor, HAND, (1, loops))
        self.assertEqual([error[0], error[1]["ring"]], [NeverHelps, (1,)])
        self.assertEqual(ring_factor(HAND, (1, loops), (0,)), (1, 1))
        self.assertIsNone(self.check_all(HAND, (1, loops)))

    def test_hands_of_one_kind_that_lack(self):
        works = (("a", "b"), ("h", "k"), (((1, 0), (0, 0), "h"), ((0, 1), (0, 0), "k")))
        self.assertEqual(self.check_all(works, (1, ((0, 0, (3, 4), (2, 1)),))), (4, 1))
        self.assertEqual(self.check_all(works, (1, ((0, 0, (3, 0), (2, 0)),))), (3, 2))
        self.assertIsNone(self.check_all(works, (1, ((0, 0, (3, 1), (2, 0)),))))

    def test_many(self):
        rng = seeded(4101)
        seen = {None: 0, True: 0, False: 0}
        for turn in range(250):
            works = random_works(rng, hands=rng.randint(1, 3), recipes=rng.randint(0, 3), most=rng.choice((1, 2, 4)))
            if turn % 2:
                # All can go out by hands.
                units = [tuple(int(at == kind) for at in range(len(works[0]))) for kind in range(len(works[0]))]
                out = tuple((unit, (0,) * len(unit), rng.choice(works[1])) for unit in units)
                works = (works[0], works[1], works[2] + out)
            sender = weak_sender(rng, works, rng.randint(1, 4), rng.randint(0, 7))
            if turn % 3 == 0:
                sender = (sender[0], tuple(arrow[:3] + (tuple(1 + many // 3 for many in arrow[3]),) for arrow in sender[1]))
            factor = self.check_all(works, sender)
            above = None if factor is None else factor[0] > factor[1]
            seen[above] += 1
            # [5]: it is at most 1 exactly if the works holds the sender.
            self.assertIs(holds(works, sender), above is False)
        self.assertGreater(min(seen.values()), 10)
        self.check_all(WORKS, RINGS)
        self.check_all(WORKS, SENDER)

    def test_a_factor_is_the_greatest_worth_by_fair_pay(self):
        rng = seeded(4102)
        for _ in range(100):
            works = random_works(rng, most=2)
            sender = weak_sender(rng, works, 2, 4)
            for ring in rings_of(sender)[:4]:
                amounts, crew = sum_of(works, sender, ring)
                couples = [(worth(tariff, amounts), pay(tariff, crew)) for tariff in book_of(works)]
                told = self.check(works, sender, ring)
                never = any(gain > 0 and cost == 0 for gain, cost in couples)
                self.assertEqual(told is None, never)
                if not never:
                    self.assertEqual(Fraction(*told), max([Fraction(gain, cost) for gain, cost in couples if cost > 0] + [Fraction(0)]))

    def test_too_many_is_ahead_of_never_helps(self):
        self.assertEqual(asked(self, least_factor, HAND, circle(MANY, ((1,), (0,)), 1)), (TooMany, {"most": 2000}))
        self.assertEqual(asked(self, least_factor, HAND, circle(MANY, ((1,), (1,)), 1)), (TooMany, {"most": 2000}))
        error = asked(self, least_factor, HAND, circle(MANY, ((1,), (0,))))
        self.assertEqual([error[0], error[1]["ring"]], [NeverHelps, (0, 2, 4, 6, 8, 13, 18)])
        self.assertEqual(least_factor(HAND, circle(MANY, ((3,), (2,)))), (3, 2))

    def test_up_to_the_bounds(self):
        rng = seeded(4103)
        places, arrows = circle(MANY)
        out = (((1, 0, 0, 0, 0), (0, 0, 0, 0, 0), "h"), ((0, 1, 0, 0, 0), (0, 0, 0, 0, 0), "j"), ((0, 0, 0, 1, 0), (0, 0, 0, 0, 0), "k"),
               ((0, 0, 1, 0, 0), (0, 0, 0, 0, 0), "k"))
        works = (FULL[0], FULL[1], FULL[2][:4] + out)
        loads = [(tuple(rng.randint(0, 9) for _ in range(4)) + (0,), tuple(rng.randint(1, 9) for _ in range(3))) for _ in arrows]
        sender = (places, tuple(arrow[:2] + load for arrow, load in zip(arrows, loads)))
        told = least_factor(works, sender)
        self.assertEqual(told, max([ring_factor(works, sender, ring) for ring in rings_of(sender)], key=lambda item: Fraction(*item)))
        self.assertGreater(told[0], 0)


if __name__ == "__main__":
    unittest.main()
