"""[40], and [9] as far as it speaks of it: throwing plans, and a builder that throws away no more than it has to."""

import unittest
from fractions import Fraction

from neverheaps.errors import NoArrow, TooMany
from neverheaps.forms import is_amounts, is_deeds
from neverheaps.held import holds
from neverheaps.loss import least_loss, ring_loss, worst_ring
from neverheaps.play import after, is_within, no_heaps
from neverheaps.plans import is_plan
from neverheaps.rings import rings_of
from neverheaps.thrower import Thrower, is_throwing_plan, thrower_rooms, throwing_plan
from neverheaps.works import levels
from tests.samples import BARE, FULL, MANY, RINGS, WORKS, any_values, asked, circle, otherwise, random_works, seeded
from tests.test_held import weak_sender
from tests.test_loss import HAND, LOOP, LOSING, random_costs
from tests.test_plans import BOTH, MIXED
from tests.test_tracker import DEEP, DEEP_SENDER

# More comes than DEEP can work off.
FLOOD = (3, tuple((source, target, tuple(many + 1 for many in amounts), crew) for source, target, amounts, crew in DEEP_SENDER[1]))


def slow_is_throwing_plan(works, sender, ring, plan):
    """Whether a throwing plan that has the right form is one, word by word."""
    times, thrown, rows, free = plan
    if times < 1 or min([many for row in rows + (free, thrown) for many in row]) < 0:
        return False
    for at, (_, _, hand) in enumerate(works[2]):
        if hand is None and any(row[at] for row in rows) or hand is not None and free[at]:
            return False
    for index, row in zip(ring, rows):
        for place, name in enumerate(works[1]):
            if sum(many for many, recipe in zip(row, works[2]) if recipe[2] == name) > times * sender[1][index][3][place]:
                return False
    for kind in range(len(works[0])):
        gone = sum(row[at] * (takes[kind] - puts[kind]) for row in rows + (free,) for at, (takes, puts, _) in enumerate(works[2]))
        if gone + thrown[kind] != times * sum(sender[1][index][2][kind] for index in ring):
            return False
    return True


def slow_rooms(works, sender, costs):
    """The rooms, from the throwing plans, kind by kind."""
    plans = {ring: throwing_plan(works, sender, ring, costs) for ring in rings_of(sender)}
    times = [plan[0] for plan in plans.values()]
    number = 0
    for _ in range(1 + max(levels(works)) if works[2] else 1):
        number = sum(sum(crew) for _, _, _, crew in sender[1]) * (sum(times) + max(times, default=0) * number)
    rooms = []
    for kind in range(len(works[0])):
        loads = [0]
        for ring, (many, _, rows, free) in plans.items():
            put = sum(row[at] * works[2][at][1][kind] for row in rows + (free,) for at in range(len(works[2])))
            loads.append(many * sum(sender[1][index][2][kind] for index in ring) + put)
        rooms.append(sum(amounts[kind] for _, _, amounts, _ in sender[1]) + max(loads) * (sum(times) + number))
    return tuple(rooms)


def state(thrower):
    return thrower.heaps(), thrower.stands_at(), thrower.log(), thrower.paid()


class PlansTest(unittest.TestCase):

    def check(self, works, sender, ring, costs):
        plan = asked(self, throwing_plan, works, sender, ring, costs)
        self.assertTrue(slow_is_throwing_plan(works, sender, ring, plan))
        self.assertIs(asked(self, is_throwing_plan, works, sender, ring, plan), True)
        paid = sum(many * cost for many, cost in zip(plan[1], costs))
        self.assertEqual(paid, plan[0] * Fraction(*ring_loss(works, sender, ring, costs)))
        return plan

    def test_the_example(self):
        self.assertEqual(self.check(LOSING, LOOP, (0,), (5, 1)), (1, (0, 1), ((1, 0),), (0, 1)))
        self.assertIs(is_throwing_plan(LOSING, LOOP, (0,), (1, (0, 1), ((1, 0),), (0, 1))), True)

    def test_things_thrown_in_parts(self):
        half = (1, ((0, 0, (2, 0), (1,)),))
        times, thrown, rows, free = self.check(LOSING, half, (0,), (2, 3))
        self.assertEqual([2 * thrown[1], rows[0][0], 2 * free[1], times % 2], [times, times, times, 0])

    def test_many_rings(self):
        rng = seeded(4001)
        thrown = 0
        for _ in range(150):
            works = random_works(rng, most=rng.choice((1, 2, 4)))
            sender = weak_sender(rng, works, rng.randint(1, 4), rng.randint(1, 8))
            costs = random_costs(rng, works)
            for ring in rings_of(sender)[:5]:
                times, gone, rows, free = self.check(works, sender, ring, costs)
                thrown += any(gone)
                # A throwing plan by which nothing is thrown is a plan.
                self.assertIs(is_plan(works, sender, ring, (times, rows, free)), not any(gone))
        self.assertGreater(thrown, 50)

    def test_without_recipes(self):
        self.assertEqual(self.check(BARE, (1, ((0, 0, (4,), ()),)), (0,), (3,)), (1, (4,), ((),), ()))
        self.assertIs(is_throwing_plan(BARE, (1, ((0, 0, (4,), ()),)), (0,), (2, (8,), ((),), ())), True)

    def test_one_integer_otherwise(self):
        times, thrown, rows, free = throwing_plan(MIXED, BOTH, (0, 1), (1, 5))
        for by in (-1, 1):
            changed = [(times + by, thrown, rows, free), (times, (thrown[0] + by, thrown[1]), rows, free),
                       (times, (thrown[0], thrown[1] + by), rows, free)]
            for recipe in range(4):
                changed.append((times, thrown, rows, free[:recipe] + (free[recipe] + by,) + free[recipe + 1:]))
                for at, row in enumerate(rows):
                    other = row[:recipe] + (row[recipe] + by,) + row[recipe + 1:]
                    changed.append((times, thrown, rows[:at] + (other,) + rows[at + 1:], free))
            for plan in changed:
                self.assertIs(asked(self, is_throwing_plan, MIXED, BOTH, (0, 1), plan), False)

    def test_words(self):
        zeros = (0,) * 4
        sender = (2, ((0, 1, (2, 0), (1, 0)), (1, 0, (0, 3), (2, 2))))
        for plan, fits in (
            ((1, (2, 3), (zeros, zeros), zeros), True), ((1, (0, 1), (zeros, (1, 3, 0, 0)), zeros), False),
            ((1, (0, 2), (zeros, (1, 2, 0, 0)), zeros), True), ((1, (1, 0), ((0, 0, 1, 0), zeros), (0, 0, 0, 1)), True),
            ((1, (0, 0), (zeros, (0, 0, 2, 0)), (0, 0, 0, 1)), True), ((1, (0, 0), ((0, 0, 2, 0), zeros), (0, 0, 0, 1)), False),
            ((3, (6, 0), (zeros, zeros), (0, 0, 0, 3)), True), ((1, (2, 3), (zeros,), zeros), False),
            ((1, (2, 3), (zeros, zeros, zeros), zeros), False), ((0, (0, 0), (zeros, zeros), zeros), False),
            ((1, (2, 0), (zeros, (0, 0, 0, 1)), zeros), False), ((1, (1, 3), (zeros, zeros), (0, 0, 1, 0)), False),
            ((1, (2, 3), (zeros, zeros)), False), ((1, (zeros, zeros), zeros), False), ((1, (2, 3, 0), (zeros, zeros), zeros), False),
            ((1, (2,), (zeros, zeros), zeros), False), ((1, [2, 3], (zeros, zeros), zeros), False),
            ((1, (3, 3), (zeros, zeros), zeros), False), ((1, (2, 3), (zeros, zeros), zeros, ()), False),
        ):
            self.assertIs(asked(self, is_throwing_plan, MIXED, sender, (0, 1), plan), fits, plan)

    def test_any_value(self):
        plan = throwing_plan(MIXED, BOTH, (0, 1), (1, 5))
        for thing in list(otherwise(plan)) + any_values():
            self.assertIs(is_throwing_plan(MIXED, BOTH, (0, 1), thing), False)


class ThrowerTest(unittest.TestCase):

    def led(self, works, sender, costs, choose, beats, rooms=None):
        """A thrower that is led so many beats: what it tells is right at each of them."""
        thrower, rooms = Thrower(works, sender, costs), rooms or thrower_rooms(works, sender, costs)
        num, den = least_loss(works, sender, costs)
        heaps, place, run, paid = no_heaps(works), 0, (), 0
        self.assertEqual(state(thrower), (heaps, 0, (), 0))
        for _ in range(beats):
            steps = [index for index, arrow in enumerate(sender[1]) if arrow[0] == place]
            if not steps:
                break
            index = choose(steps)
            deeds, thrown = thrower.beat(index)
            self.assertTrue(is_deeds(works, deeds) and is_amounts(works, thrown))
            _, place, amounts, crew = sender[1][index]
            heaps = after(works, tuple(one + other for one, other in zip(heaps, amounts)), crew, deeds)
            self.assertTrue(is_within(thrown, heaps))
            heaps = tuple(many - gone for many, gone in zip(heaps, thrown))
            run += (index,)
            paid += sum(many * cost for many, cost in zip(thrown, costs))
            self.assertTrue(is_within(heaps, rooms), (works, sender, run))
            self.assertLessEqual(paid * den, num * len(run))
            self.assertEqual(state(thrower), (heaps, place, run, paid))
        return thrower

    def test_the_example(self):
        thrower = Thrower(LOSING, LOOP, (5, 1))
        for _ in range(50):
            thrower.beat(0)
        self.assertLessEqual(thrower.paid(), 50)
        # Nobody pays much less, and heaps stay small.
        self.assertGreater(thrower.paid(), 40)
        self.assertTrue(is_within(thrower.heaps(), (9, 3)))

    def test_long_runs(self):
        rng = seeded(4002)
        for costs in ((1, 1, 1, 1), (0, 0, 0, 0), (7, 0, 3, 2), (1, 10 ** 9, 5, 0)):
            for choose in (rng.choice, min, max):
                self.led(DEEP, FLOOD, costs, choose, 500)
        self.led(DEEP, DEEP_SENDER, (1, 2, 3, 4), rng.choice, 500)

    def test_what_comes_round_and_round_costs_as_much_as_it_must(self):
        rng = seeded(4003)
        many = 0
        while many < 25:
            works = random_works(rng, kinds=rng.randint(1, 3), recipes=rng.randint(0, 4), most=2)
            sender = weak_sender(rng, works, rng.randint(1, 3), rng.randint(1, 6))
            costs = tuple(rng.randint(0, 5) for _ in works[0])
            num, den = least_loss(works, sender, costs)
            rooms = thrower_rooms(works, sender, costs)
            ring = worst_ring(works, sender, costs)
            if num == 0 or sender[1][ring[0]][0] != 0 or max(rooms) > 200:
                continue
            many += 1
            turns = iter(ring * 100)
            thrower = self.led(works, sender, costs, lambda steps: next(turns), 100 * len(ring), rooms)
            # What lies at last could be thrown away, too.
            late = sum(lying * cost for lying, cost in zip(thrower.heaps(), costs))
            self.assertGreaterEqual((thrower.paid() + late) * den, num * 100 * len(ring))

    def test_a_sender_that_changes_and_leaves_for_good(self):
        works = HAND
        sender = (3, ((0, 0, (2,), (1,)), (0, 1, (5,), (0,)), (1, 2, (0,), (1,)), (2, 1, (4,), (2,)), (2, 2, (0,), (9,)), (1, 1, (9,), (0,))))
        turns = iter((0,) * 50 + (1,) + (2, 3) * 50 + (5,) * 20 + (2,) + (4,) * 50)
        thrower = self.led(works, sender, (3,), lambda steps: next(turns), 222)
        self.assertEqual(thrower.stands_at(), 2)

    def test_many_senders(self):
        rng = seeded(4004)
        paid = 0
        for _ in range(100):
            works = random_works(rng, most=rng.choice((1, 2, 4)))
            sender = weak_sender(rng, works, rng.randint(1, 5), rng.randint(1, 10))
            costs = random_costs(rng, works)
            rooms = thrower_rooms(works, sender, costs)
            paid += self.led(works, sender, costs, rng.choice, 120, rooms).paid() > 0
            self.led(works, sender, costs, lambda steps: rng.choice(steps) if rng.random() < 0.1 else steps[0], 120, rooms)
            if holds(works, sender):
                self.assertEqual(least_loss(works, sender, costs), (0, 1))
        self.assertGreater(paid, 20)

    def test_runs_that_end_and_without_recipes(self):
        thrower = self.led(HAND, (2, ((0, 1, (5,), (0,)),)), (1,), min, 5)
        self.assertEqual([thrower.stands_at(), thrower.paid()], [1, 0])
        with self.assertRaises(NoArrow):
            thrower.beat(0)
        thrower = self.led(BARE, (1, ((0, 0, (4,), ()),)), (3,), min, 20)
        self.assertEqual([thrower.paid(), thrower.heaps()], [240, (0,)])
        self.led(BARE, (1, ()), (3,), min, 1)

    def test_rooms(self):
        self.assertEqual(asked(self, thrower_rooms, LOSING, LOOP, (5, 1)), slow_rooms(LOSING, LOOP, (5, 1)))
        # times 1, P = 1, M = 1, E = 1, D = 1: N = 1; the load of b is 1.
        self.assertEqual(thrower_rooms(LOSING, LOOP, (5, 1)), (3 + 3 * 2, 0 + 1 * 2))
        self.assertEqual(asked(self, thrower_rooms, HAND, (2, ((0, 1, (5,), (3,)), (0, 1, (2,), (1,)))), (1,)), (7,))
        self.assertEqual(thrower_rooms(BARE, (1, ()), (9,)), (0,))
        rng = seeded(4005)
        for _ in range(80):
            works = random_works(rng, most=rng.choice((1, 2, 4)))
            sender = weak_sender(rng, works, rng.randint(1, 4), rng.randint(0, 8))
            costs = random_costs(rng, works)
            self.assertEqual(asked(self, thrower_rooms, works, sender, costs), slow_rooms(works, sender, costs))
        self.assertEqual(thrower_rooms(DEEP, FLOOD, (1, 2, 3, 4)), slow_rooms(DEEP, FLOOD, (1, 2, 3, 4)))
        self.assertEqual(thrower_rooms(WORKS, RINGS, (1, 0, 1)), slow_rooms(WORKS, RINGS, (1, 0, 1)))

    def test_too_many(self):
        over = circle(MANY, ((1,), (0,)), 1)
        self.assertEqual(asked(self, Thrower, HAND, over, (3,)), (TooMany, {"most": 2000}))
        self.assertEqual(asked(self, thrower_rooms, HAND, over, (3,)), (TooMany, {"most": 2000}))
        rng = seeded(4006)
        self.led(HAND, circle(MANY, ((1,), (0,))), (3,), rng.choice, 100)

    def test_up_to_the_bounds(self):
        rng = seeded(4007)
        places, arrows = circle(MANY)
        loads = [(tuple(rng.randint(0, 9) for _ in range(5)), tuple(rng.randint(0, 9) for _ in range(3))) for _ in arrows]
        sender = (places, tuple(arrow[:2] + load for arrow, load in zip(arrows, loads)))
        self.led(FULL, sender, tuple(rng.randint(0, 10 ** 9) for _ in range(5)), rng.choice, 400)

    def test_no_arrow(self):
        thrower = Thrower(DEEP, FLOOD, (1, 1, 1, 1))
        for index in (0, 1, 2, 0) * 3 + (0,):
            if FLOOD[1][index][0] == thrower.stands_at():
                thrower.beat(index)
        before = state(thrower)
        fine = [index for index, arrow in enumerate(FLOOD[1]) if arrow[0] == thrower.stands_at()]
        for index in [-1, 6, -6, True, False, None, "1", (1,), [1], {1: 1}, thrower, 10 ** 39] + list(range(6)) + any_values():
            if type(index) is not int or index not in fine:
                with self.assertRaises(NoArrow) as caught:
                    thrower.beat(index)
                self.assertIs(caught.exception.index, index)
                self.assertEqual(state(thrower), before)

    def test_twins_go_on_by_themselves(self):
        rng = seeded(4008)
        costs = (2, 1, 0, 3)
        thrower, run = Thrower(DEEP, FLOOD, costs), []
        for _ in range(50):
            twin, other = thrower.twin(), Thrower(DEEP, FLOOD, costs)
            for index in run:
                other.beat(index)
            self.assertIsInstance(twin, Thrower)
            self.assertEqual(state(twin), state(thrower))
            before = state(thrower)
            for _ in range(12):
                index = rng.choice([index for index, arrow in enumerate(FLOOD[1]) if arrow[0] == twin.stands_at()])
                self.assertEqual(twin.beat(index), other.beat(index))
                self.assertEqual(state(twin), state(other))
            self.assertEqual(state(thrower), before)
            run.append(rng.choice([index for index, arrow in enumerate(FLOOD[1]) if arrow[0] == thrower.stands_at()]))
            thrower.beat(run[-1])

    def test_a_twin_is_not_changed_by_its_thrower(self):
        thrower = Thrower(DEEP, FLOOD, (1, 1, 1, 1))
        for index in (0, 1, 2) * 5:
            thrower.beat(index)
        twin, other = thrower.twin(), thrower.twin()
        for index in (0, 1, 4, 5) * 5:
            thrower.beat(index)
        self.assertEqual([twin.beat(index) for index in (0, 1, 2) * 9], [other.beat(index) for index in (0, 1, 2) * 9])
        self.assertEqual(state(twin), state(other))


if __name__ == "__main__":
    unittest.main()
