"""[22], and [6] as far as it speaks of ways: what crews work off."""

import copy
import itertools
import math
import unittest
from fractions import Fraction

from neverheaps.spans import shares_for
from neverheaps.tariffs import is_fair, pay, worth
from neverheaps.ways import can_work_off, is_way, is_worked_off, tariff_against, ways_of
from tests.samples import BARE, FULL, WORKS, any_values, otherwise, random_works, seeded

EXAMPLE = (("a", "b"), ("h",), (((1, 0), (0, 0), "h"), ((1, 1), (0, 0), None)))


def slow_is_worked_off(works, amounts, crew, shares):
    """Whether the crew works off the amounts in these shares, word by word."""
    parts = [Fraction(*share) for share in shares]
    for kind, many in enumerate(amounts):
        if sum(part * (takes[kind] - puts[kind]) for part, (takes, puts, _) in zip(parts, works[2])) != many:
            return False
    wants = {name: sum(part for part, recipe in zip(parts, works[2]) if recipe[2] == name) for name in works[1]}
    return all(wants[name] <= many for name, many in zip(works[1], crew))


def row_of(couple):
    return couple[0] + couple[1]


def crews(works):
    """The rows of one hand, and no amounts."""
    size = len(works[0]) + len(works[1])
    return [tuple(int(at == other) for other in range(size)) for at in range(len(works[0]), size)]


def random_load(rng, works, most=9):
    """Amounts and a crew; often such as are worked off, with nothing left."""
    if works[2] and rng.random() < 0.6:
        counts = [rng.choice((0, rng.randint(0, 3))) for _ in works[2]]
        amounts = tuple(sum(count * (takes[kind] - puts[kind]) for count, (takes, puts, _) in zip(counts, works[2]))
                        for kind in range(len(works[0])))
        if min(amounts) >= 0:
            return amounts, tuple(sum(count for count, recipe in zip(counts, works[2]) if recipe[2] == name) for name in works[1])
    return tuple(rng.choice((0, rng.randint(0, most))) for _ in works[0]), tuple(rng.randint(0, most) for _ in works[1])


class WorkedOffTest(unittest.TestCase):

    def check(self, works, amounts, crew):
        """Just one of both is there; the shares, or None."""
        before = copy.deepcopy((works, amounts, crew))
        shares, tariff = can_work_off(works, amounts, crew), tariff_against(works, amounts, crew)
        self.assertEqual((works, amounts, crew), before)
        self.assertEqual(shares is None, tariff is not None)
        if shares is None:
            prices, wages = tariff
            self.assertEqual((type(tariff), type(prices), type(wages)), (tuple,) * 3)
            self.assertEqual((len(prices), len(wages)), (len(works[0]), len(works[1])))
            self.assertTrue(all(type(item) is int for item in prices + wages) and all(wage >= 0 for wage in wages))
            self.assertTrue(is_fair(works, tariff))
            self.assertGreater(worth(tariff, amounts), pay(tariff, crew))
        else:
            self.assertIsInstance(shares, tuple)
            self.assertEqual(len(shares), len(works[2]))
            self.assertIs(is_worked_off(works, amounts, crew, shares), True)
            self.assertTrue(slow_is_worked_off(works, amounts, crew, shares))
        return shares

    def test_the_example(self):
        self.assertEqual(self.check(EXAMPLE, (3, 1), (2,)), ((2, 1), (1, 1)))
        self.assertIsNone(self.check(EXAMPLE, (3, 1), (1,)))

    def test_hands_that_are_just_enough_and_others(self):
        works = (("a",), ("h", "j"), (((2,), (0,), "h"), ((3,), (0,), "j")))
        self.assertEqual(self.check(works, (5,), (1, 1)), ((1, 1), (1, 1)))
        self.assertIsNone(self.check(works, (6,), (1, 1)))
        self.assertIsNotNone(self.check(works, (1,), (1, 1)))
        self.assertEqual(self.check(works, (1,), (1, 0)), ((1, 2), (0, 1)))
        self.assertEqual(self.check(works, (1,), (0, 1)), ((0, 1), (1, 3)))
        self.assertIsNone(self.check(works, (1,), (0, 0)))
        self.assertEqual(self.check(works, (0,), (0, 0)), ((0, 1), (0, 1)))

    def test_without_recipes_and_without_hands(self):
        self.assertEqual(self.check(BARE, (0,), ()), ())
        self.assertIsNone(self.check(BARE, (1,), ()))
        self.assertIsNone(self.check((("a", "b"), ("h",), ()), (0, 1), (9,)))
        self.assertEqual(self.check((("a",), (), (((2,), (0,), None),)), (7,), ()), ((7, 2),))

    def test_chained_and_doubled_recipes(self):
        self.assertEqual(self.check(WORKS, (2, 0, 1), (1,)), ((1, 1), (1, 1)))
        self.assertEqual(self.check(WORKS, (4, 1, 3), (2,)), ((2, 1), (3, 1)))
        self.assertIsNone(self.check(WORKS, (2, 0, 0), (1,)))
        self.assertIsNone(self.check(WORKS, (2, 0, 2), (9,)))
        doubled = (("a",), ("h", "j"), (((1,), (0,), "h"), ((1,), (0,), "j"), ((1,), (0,), "h")))
        self.assertIsNotNone(self.check(doubled, (5,), (2, 3)))
        self.assertIsNone(self.check(doubled, (6,), (2, 3)))

    def test_many_works(self):
        rng, there = seeded(50), 0
        for _ in range(800):
            works = random_works(rng)
            there += self.check(works, *random_load(rng, works)) is not None
        self.assertTrue(200 < there < 700, there)

    def test_great_works_and_amounts(self):
        rng = seeded(51)
        for at in range(60):
            works = FULL if at == 0 else random_works(rng, kinds=5, hands=3, recipes=8)
            self.check(works, *random_load(rng, works, 10 ** 30))
            self.check(works, *random_load(rng, works, 10 ** 9))

    def test_is_worked_off(self):
        self.assertIs(is_worked_off(EXAMPLE, (3, 1), (2,), ((2, 1), (1, 1))), True)
        self.assertIs(is_worked_off(EXAMPLE, (3, 1), (9,), ((2, 1), (1, 1))), True)
        self.assertIs(is_worked_off(EXAMPLE, (3, 1), (1,), ((2, 1), (1, 1))), False)
        self.assertIs(is_worked_off(EXAMPLE, (3, 2), (2,), ((2, 1), (1, 1))), False)
        self.assertIs(is_worked_off(EXAMPLE, (2, 1), (2,), ((2, 1), (1, 1))), False)
        works = (("a", "b"), ("h",), (((3, 0), (0, 1), "h"), ((2, 0), (0, 0), "h"), ((0, 2), (0, 0), None)))
        self.assertIs(is_worked_off(works, (1, 0), (1,), ((1, 6), (1, 4), (1, 12))), True)
        self.assertIs(is_worked_off(works, (1, 0), (0,), ((1, 6), (1, 4), (1, 12))), False)
        self.assertIs(is_worked_off(works, (1, 0), (1,), ((1, 6), (1, 4), (1, 6))), False)
        self.assertIs(is_worked_off(works, (1, 0), (1,), ((1, 3), (0, 1), (1, 6))), True)
        self.assertIs(is_worked_off(works, (4, 0), (1,), ((4, 3), (0, 1), (2, 3))), False)
        self.assertIs(is_worked_off(works, (4, 0), (2,), ((4, 3), (0, 1), (2, 3))), True)
        self.assertIs(is_worked_off(BARE, (0,), (), ()), True)
        self.assertIs(is_worked_off(BARE, (1,), (), ()), False)

    def test_shares_below_zero_or_not_in_lowest_terms(self):
        works = (("a",), (), (((1,), (0,), None), ((1,), (0,), None)))
        self.assertIs(is_worked_off(works, (1,), (), ((1, 1), (0, 1))), True)
        for thing in (((2, 1), (-1, 1)), ((2, 2), (0, 1)), ((1, 1), (0, 2)), ((1, 1),), ((1, 1), (0, 1), (0, 1)), [(1, 1), (0, 1)], (1, 0),
                      ((1, 1), (0, 0))):
            self.assertIs(is_worked_off(works, (1,), (), thing), False)

    def test_is_worked_off_with_one_part_otherwise(self):
        for other in otherwise(((2, 1), (1, 1))):
            self.assertIs(is_worked_off(EXAMPLE, (3, 1), (2,), other), False, other)

    def test_is_worked_off_of_any_value(self):
        for value in any_values():
            self.assertIs(is_worked_off(EXAMPLE, (1, 0), (1,), value), False)
            self.assertIs(is_worked_off(EXAMPLE, (1, 0), (1,), (value, (0, 1))), value == (1, 1))

    def test_great_shares(self):
        works = (("a",), ("h",), (((1,), (0,), "h"),) * 4)
        den = 10 ** 39 + 7
        shares = ((1, den), (den - 2, den), (1, den), (0, 1))
        self.assertIs(is_worked_off(works, (1,), (1,), shares), True)
        self.assertIs(is_worked_off(works, (1,), (0,), shares), False)
        self.assertIs(is_worked_off(works, (1,), (1,), ((1, den), (den - 1, den), (1, den), (0, 1))), False)

    def test_shares_of_many_works(self):
        rng = seeded(52)
        for _ in range(300):
            works = random_works(rng, most=2)
            amounts, crew = random_load(rng, works)
            shares = can_work_off(works, amounts, crew)
            if shares:
                at, step = rng.randrange(len(shares)), rng.choice((Fraction(1, 2), Fraction(1, 3), -Fraction(1, 5)))
                part = max(Fraction(0), Fraction(*shares[at]) + step)
                other = shares[:at] + ((part.numerator, part.denominator),) + shares[at + 1:]
                self.assertIs(is_worked_off(works, amounts, crew, other), slow_is_worked_off(works, amounts, crew, other))
                crews_less = tuple(max(0, many - 1) for many in crew)
                self.assertIs(is_worked_off(works, amounts, crews_less, shares), slow_is_worked_off(works, amounts, crews_less, shares))


class WaysTest(unittest.TestCase):

    def check(self, works, needless=20):
        """The ways are sound, ascending, and none of the first ones is a shared sum of the others; the ways."""
        before = copy.deepcopy(works)
        ways = ways_of(works)
        self.assertEqual(works, before)
        self.assertIsInstance(ways, list)
        self.assertEqual(ways, sorted(set(ways)))
        rows = [row_of(way) for way in ways] + crews(works)
        for at, way in enumerate(ways):
            amounts, crew = way
            self.assertEqual((type(way), type(amounts), type(crew)), (tuple,) * 3)
            self.assertEqual((len(amounts), len(crew)), (len(works[0]), len(works[1])))
            self.assertTrue(min(amounts + crew) >= 0 and any(amounts))
            self.assertEqual(math.gcd(*amounts, *crew), 1)
            self.assertIsNotNone(can_work_off(works, amounts, crew))
            if at < needless:
                others = tuple(row for row in rows if row != row_of(way))
                self.assertIsNone(shares_for(others, row_of(way)), (works, way))
        return ways

    def check_loads(self, works, ways, loads):
        """What is worked off is a shared sum of the ways and of crews, and nothing else is."""
        rows, told = tuple([row_of(way) for way in ways] + crews(works)), {True: 0, False: 0}
        for amounts, crew in loads:
            off = can_work_off(works, amounts, crew) is not None
            self.assertEqual(off, shares_for(rows, amounts + crew) is not None, (works, amounts, crew))
            told[off] += 1
        return told

    def test_the_example(self):
        self.assertEqual(ways_of(EXAMPLE), [((1, 0), (1,)), ((1, 1), (0,))])

    def test_small_ones(self):
        self.assertEqual(self.check(BARE), [])
        self.assertEqual(self.check((("a", "b"), ("h", "j"), ())), [])
        self.assertEqual(self.check((("a",), (), (((3,), (0,), None),))), [((1,), ())])
        self.assertEqual(self.check((("a",), ("h",), (((3,), (0,), "h"),))), [((3,), (1,))])
        self.assertEqual(self.check((("a",), ("h",), (((3,), (0,), "h"), ((2,), (0,), None)))), [((1,), (0,))])
        # What only turns one thing into another one works off nothing.
        self.assertEqual(self.check((("a", "b"), ("h",), (((1, 0), (0, 1), "h"),))), [])

    def test_chained_recipes(self):
        self.assertEqual(self.check(WORKS), [((0, 1, 1), (0,)), ((2, 0, 1), (1,))])
        chain = (("a", "b"), ("h",), (((2, 0), (0, 3), "h"), ((0, 1), (0, 0), "h")))
        self.assertEqual(self.check(chain), [((0, 1), (1,)), ((1, 0), (2,))])

    def test_doubled_recipes(self):
        for times in (2, 4):
            works = (EXAMPLE[0], EXAMPLE[1], EXAMPLE[2] * times)
            self.assertEqual(self.check(works), [((1, 0), (1,)), ((1, 1), (0,))])
        with_sum = (EXAMPLE[0], EXAMPLE[1], EXAMPLE[2] + (((2, 1), (0, 0), "h"),))
        self.assertEqual(self.check(with_sum), [((1, 0), (1,)), ((1, 1), (0,))])

    def test_two_hands(self):
        works = (("a",), ("h", "j"), (((1,), (0,), "h"), ((2,), (0,), "j")))
        self.assertEqual(self.check(works), [((1,), (1, 0)), ((2,), (0, 1))])

    def test_fair_tariffs_with_lines(self):
        works = (("a", "b", "c"), ("h",), (((1, 1, 0), (0, 0, 0), "h"), ((2, 2, 0), (0, 0, 0), None)))
        self.assertEqual(self.check(works), [((1, 1, 0), (0,))])
        works = (("a", "b", "c"), ("h",), (((1, 1, 0), (0, 0, 0), "h"), ((2, 0, 0), (0, 0, 1), "h")))
        self.assertEqual(self.check(works), [((1, 1, 0), (1,))])

    def test_loads_of_small_works(self):
        rng, told = seeded(53), {True: 0, False: 0}
        for _ in range(60):
            works = random_works(rng, kinds=rng.randint(1, 3), hands=rng.randint(0, 1), recipes=rng.randint(0, 5), most=2)
            loads = []
            for amounts in itertools.product(range(4), repeat=len(works[0])):
                for crew in itertools.product(range(4), repeat=len(works[1])):
                    loads.append((amounts, crew))
            found = self.check_loads(works, self.check(works), loads)
            told = {off: told[off] + found[off] for off in told}
        self.assertGreater(min(told.values()), 500)

    def test_loads_of_great_works(self):
        rng, told = seeded(54), {True: 0, False: 0}
        for at in range(40):
            works = FULL if at == 0 else random_works(rng, kinds=5, hands=3, recipes=8, most=rng.choice((1, 2, 4)))
            found = self.check_loads(works, self.check(works, 3), [random_load(rng, works) for _ in range(10)])
            told = {off: told[off] + found[off] for off in told}
        self.assertGreater(min(told.values()), 50)

    def test_works_are_compared_by_ways(self):
        # [6]: all that the other works works off, this one does, exactly if it does so with its ways.
        rng, told = seeded(55), {True: 0, False: 0}
        for _ in range(200):
            other = random_works(rng, kinds=2, hands=1, recipes=3, most=2)
            one = (other[0], other[1], rng.choice((other[2], other[2][:1]))[:rng.randint(0, 3)] + random_works(
                rng, kinds=2, hands=1, recipes=rng.randint(0, 3), most=2)[2])
            bears = all(can_work_off(one, *way) is not None for way in ways_of(other))
            told[bears] += 1
            if bears:
                for amounts in itertools.product(range(4), repeat=2):
                    for crew in itertools.product(range(3), repeat=1):
                        if can_work_off(other, amounts, crew) is not None:
                            self.assertIsNotNone(can_work_off(one, amounts, crew))
        self.assertGreater(min(told.values()), 20)

    def test_is_way(self):
        for works in (EXAMPLE, WORKS, FULL):
            for way in ways_of(works):
                self.assertIs(is_way(works, way), True)
        for thing in (
            ((1, 0), (2,)), ((2, 0), (2,)), ((2, 1), (1,)), ((0, 0), (1,)), ((0, 1), (0,)), ((1, 0), (0,)), ((1, 1), (1,)), ((0, 0), (0,)),
            ((1, 0), (1,), ()), ((1, 0),), ((1, 0), 1), [(1, 0), (1,)], ((1,), (0, 1)), (1, 0, 1), ((1, 0, 1), ()), ((1, 0), ()),
        ):
            self.assertIs(is_way(EXAMPLE, thing), False, thing)
        self.assertIs(is_way(BARE, ((1,), ())), False)

    def test_is_way_with_one_part_otherwise(self):
        for way in ways_of(EXAMPLE):
            for other in otherwise(way):
                self.assertIs(is_way(EXAMPLE, other), False, other)

    def test_is_way_of_any_value(self):
        for value in any_values():
            self.assertIs(is_way(EXAMPLE, value), False)
            self.assertIs(is_way(EXAMPLE, (value, (1,))), False)
            self.assertIs(is_way(EXAMPLE, ((1, 0), value)), value == (1,) and type(value[0]) is int)

    def test_what_is_returned_is_new_and_the_same_again(self):
        first = ways_of(FULL)
        ways_of(EXAMPLE)
        again = ways_of(FULL)
        self.assertEqual(first, again)
        again.clear()
        self.assertEqual(ways_of(FULL), first)


if __name__ == "__main__":
    unittest.main()
