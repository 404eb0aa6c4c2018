"""[45]: heaps of somebody who does the deeds of each beat by an order."""

import itertools
import unittest

from neverheaps.errors import Piles, TooMany
from neverheaps.orders import deeds_by, order_play
from neverheaps.piles import good_orders, order_keeps, order_positions, order_rooms, pile_run
from neverheaps.play import is_within, keeps_rooms, played
from neverheaps.tables import are_enough
from tests.samples import BARE, FULL, WORKS, asked, random_works, seeded
from tests.slow import steps
from tests.test_held import weak_sender

HAND = (("a",), ("h",), (((1,), (0,), "h"),))
CHOICE = (("a", "b"), (), (((1, 0), (0, 0), None), ((1, 1), (0, 0), None)))
TURNS = (2, ((0, 1, (1, 0), ()), (1, 0, (0, 1), ())))
# Nine things make more than 1,000 deeds.
BURST = (("a", "b", "c", "d", "e"), (), tuple(
    (tuple(int(at == kind) for at in range(5)), tuple(4 * int(at == kind + 1) for at in range(5)), None) for kind in range(5)))


def slow_done(works, order, heaps, crew):
    """The heaps behind the deeds by the order, one after the other; None if they are too many."""
    lying, rest = list(heaps), dict(zip(works[1], crew))
    for _ in range(1001):
        for index in order:
            takes, puts, hand = works[2][index]
            if all(have >= need for have, need in zip(lying, takes)) and (hand is None or rest[hand] > 0):
                lying = [have - need + put for have, need, put in zip(lying, takes, puts)]
                if hand is not None:
                    rest[hand] -= 1
                break
        else:
            return tuple(lying)
    return None


def slow_walk(works, sender, order, rooms):
    """The positions, and the run that breaks the rooms or None; or the error."""
    found = {(0, (0,) * len(works[0])): ()}
    queue = list(found)
    for place, heaps in queue:
        for index in steps(sender, place):
            _, target, amounts, crew = sender[1][index]
            behind = slow_done(works, order, tuple(map(sum, zip(heaps, amounts))), crew)
            if behind is None:
                return (TooMany, {"most": 1000}), None
            if not is_within(behind, rooms):
                return queue, found[place, heaps] + (index,)
            if (target, behind) not in found:
                found[target, behind] = found[place, heaps] + (index,)
                queue.append((target, behind))
    return queue, None


class PilesTest(unittest.TestCase):

    def check(self, works, sender, order, rooms):
        """The run, or None, and all that goes with it."""
        positions, run = slow_walk(works, sender, order, rooms)
        told = asked(self, pile_run, works, sender, order, rooms)
        keeps = asked(self, order_keeps, works, sender, order, rooms)
        all_told = asked(self, order_positions, works, sender, order, rooms)
        if isinstance(positions, tuple):
            self.assertEqual([told, keeps, all_told], [positions] * 3)
            return told
        self.assertEqual(told, run)
        self.assertIs(keeps, run is None)
        if run is None:
            self.assertEqual(all_told, sorted(positions))
        else:
            self.assertEqual(all_told, (Piles, {"run": run}))
            play = order_play(works, sender, order, run)
            self.assertFalse(is_within(played(works, sender, run, play)[-1], rooms))
            self.assertTrue(keeps_rooms(works, sender, run[:-1], play[:-1], rooms))
        return told

    def test_the_example(self):
        self.assertEqual(self.check(CHOICE, TURNS, (0, 1), (1, 1)), (0, 1, 0, 1))
        self.assertIsNone(self.check(CHOICE, TURNS, (1, 0), (1, 1)))
        self.assertEqual([good_orders(CHOICE, TURNS, (1, 1)), good_orders(CHOICE, TURNS, (1, 0))], [[(1, 0)], []])

    def test_small_ones(self):
        self.assertEqual(self.check(BARE, (1, ((0, 0, (1,), ()),)), (), (3,)), (0, 0, 0, 0))
        self.assertIsNone(self.check(BARE, (1, ((0, 0, (0,), ()),)), (), (0,)))
        self.assertIsNone(self.check(BARE, (1, ()), (), (0,)))
        self.assertEqual(order_positions(BARE, (1, ()), (), (0,)), [(0, (0,))])
        # The shorter run ahead of the lesser one, and the lesser one of two.
        loops = (2, ((0, 0, (1,), (0,)), (0, 1, (3,), (0,)), (0, 1, (3,), (0,)), (0, 0, (3,), (1,))))
        self.assertEqual(self.check(HAND, loops, (0,), (2,)), (1,))
        self.assertEqual(self.check(HAND, (2, loops[1][:1] + loops[1][3:]), (0,), (2,)), (0, 1))
        self.assertEqual(order_positions(HAND, (2, loops[1][1:3]), (0,), (3,)), [(0, (0,)), (1, (3,))])

    def test_places_that_are_not_come_to(self):
        self.assertIsNone(self.check(HAND, (3, ((1, 2, (9,), (0,)), (2, 1, (9,), (0,)))), (0,), (0,)))

    def test_many(self):
        rng = seeded(4501)
        seen = {True: 0, False: 0}
        for _ in range(250):
            works = random_works(rng, kinds=rng.randint(1, 3), recipes=rng.randint(0, 5), most=2)
            sender = weak_sender(rng, works, rng.randint(1, 4), rng.randint(0, 7))
            order = tuple(rng.sample(range(len(works[2])), len(works[2])))
            rooms = tuple(rng.randint(0, 6) for _ in works[0])
            told = self.check(works, sender, order, rooms)
            seen[told is None] += 1
            if told is None:
                # [10]: what an order keeps, some builder keeps.
                self.assertIs(are_enough(works, sender, rooms), True)
        self.assertGreater(min(seen.values()), 50)

    def test_deeds_that_feed_those_ahead_in_the_order(self):
        rng = seeded(4502)
        for _ in range(400):
            works = random_works(rng, recipes=rng.randint(1, 8), most=3)
            order = tuple(rng.sample(range(len(works[2])), len(works[2])))
            heaps = tuple(rng.choice((0, rng.randint(0, 12))) for _ in works[0])
            crew = tuple(rng.randint(0, 6) for _ in works[1])
            lying = slow_done(works, order, heaps, crew)
            if lying is None:
                self.assertEqual(asked(self, deeds_by, works, order, heaps, crew), (TooMany, {"most": 1000}))
            else:
                deeds, told = deeds_by(works, order, heaps, crew), heaps
                rest = dict(zip(works[1], crew))
                for index in deeds:
                    free = [at for at in order if all(have >= need for have, need in zip(told, works[2][at][0]))
                            and (works[2][at][2] is None or rest[works[2][at][2]] > 0)]
                    self.assertEqual(free[0], index)
                    told = tuple(have - need + put for have, need, put in zip(told, *works[2][index][:2]))
                    if works[2][index][2] is not None:
                        rest[works[2][index][2]] -= 1
                self.assertEqual(told, lying)

    def test_too_many_positions(self):
        many = (2, ((0, 0, (1,), (0,)), (0, 1, (0,), (0,))))
        over = (TooMany, {"most": 20000})
        self.assertEqual(len(pile_run(HAND, many, (0,), (9999,))), 10000)
        for function in (pile_run, order_keeps, order_positions):
            self.assertEqual(asked(self, function, HAND, many, (0,), (10000,)), over)
            self.assertEqual(asked(self, function, HAND, (3, many[1]), (0,), (6666,)), over)
            # Ahead of all else, and whatever is come to.
            self.assertEqual(asked(self, function, HAND, (20001, ()), (0,), (0,)), over)
            self.assertEqual(asked(self, function, BURST, (1, ((0, 0, (9,) * 5, ()),)), (0, 1, 2, 3, 4), (10 ** 9,) * 5), over)
        self.assertEqual(asked(self, order_positions, HAND, (20000, ()), (0,), (0,)), [(0, (0,))])
        self.assertIs(order_keeps(HAND, (10, ((0, 0, (1,), (1,)),)), (0,), (1999,)), True)

    def test_too_many_deeds(self):
        over = (TooMany, {"most": 1000})
        order = (4, 3, 2, 1, 0)
        # 3 make 1,023 deeds, 2 make 682.
        three, two = (1, ((0, 0, (3, 0, 0, 0, 0), ()),)), (1, ((0, 0, (2, 0, 0, 0, 0), ()),))
        for turned in (order, order[::-1]):
            self.assertEqual(self.check(BURST, three, turned, (0,) * 5), over)
            self.assertIsNone(self.check(BURST, two, turned, (0,) * 5))
        # Just 1,000 deeds, and one more.
        for deeds, told in ((1000, None), (1001, over)):
            amounts = self.burst_of(deeds)
            self.assertEqual(sum(self.burst_counts(amounts)), deeds)
            self.assertEqual(self.check(BURST, (1, ((0, 0, amounts, ()),)), order, (0,) * 5), told)

    def burst_counts(self, amounts):
        """How often each recipe of BURST is done."""
        counts, put = [], 0
        for many in amounts:
            counts.append(many + put)
            put = 4 * counts[-1]
        return counts

    def burst_of(self, deeds):
        """Amounts, at most nine of each, that make so many deeds."""
        for amounts in itertools.product(range(3), range(10), range(4), range(5), range(10)):
            if sum(self.burst_counts(amounts)) == deeds:
                return amounts
        return None

    def test_too_many_deeds_behind_the_end_of_the_walk(self):
        order = (0, 1, 2, 3, 4)
        works = (BURST[0], ("h",), BURST[2][:4] + ((BURST[2][4][0], BURST[2][4][1], "h"),))
        # By the first arrow e piles up at once; by the second one there are too many deeds.
        first, second = (0, 0, (0, 0, 0, 0, 1), (0,)), (0, 0, (9, 0, 0, 0, 0), (9,))
        self.assertEqual(self.check(works, (1, (first, second)), order, (0,) * 5), (0,))
        self.assertEqual(self.check(works, (1, (second, first)), order, (0,) * 5), (0,))
        free = (1, ((0, 0, (0, 0, 0, 0, 1), ()), (0, 0, (9, 0, 0, 0, 0), ())))
        self.assertEqual(self.check((BURST[0], (), BURST[2][:4]), free, order[:4], (0,) * 5), (0,))
        self.assertEqual(self.check(BURST, free, order, (0,) * 5), (TooMany, {"most": 1000}))
        self.assertEqual(self.check((BURST[0], (), BURST[2][:4]), free, order[:4], (5,) * 5), (1,))


class RoomsTest(unittest.TestCase):

    def check(self, works, sender, order, most):
        told = asked(self, order_rooms, works, sender, order, most)
        rooms = (most,) * len(works[0])
        keeps = asked(self, order_keeps, works, sender, order, rooms)
        if not isinstance(keeps, bool):
            self.assertEqual(told, keeps)
        elif not keeps:
            self.assertIsNone(told)
        else:
            positions = order_positions(works, sender, order, rooms)
            self.assertEqual(told, tuple(max(heaps[kind] for _, heaps in positions) for kind in range(len(works[0]))))
            self.assertIs(order_keeps(works, sender, order, told), True)
            for kind, room in enumerate(told):
                if room > 0:
                    self.assertIs(order_keeps(works, sender, order, told[:kind] + (room - 1,) + told[kind + 1:]), False)
        return told

    def test_the_example(self):
        both = (1, ((0, 0, (1, 1), ()),))
        self.assertEqual([good_orders(CHOICE, both, (0, 0)), self.check(CHOICE, both, (1, 0), 3), self.check(CHOICE, both, (0, 1), 3)],
                         [[(1, 0)], (0, 0), None])

    def test_each_most(self):
        sender = (2, ((0, 1, (3,), (0,)), (1, 0, (0,), (3,))))
        self.assertEqual([self.check(HAND, sender, (0,), most) for most in range(5)], [None, None, None, (3,), (3,)])
        self.assertEqual([self.check(BARE, (1, ()), (), most) for most in range(3)], [(0,)] * 3)
        self.assertEqual(asked(self, order_rooms, HAND, sender, (0,), 10000), (TooMany, {"most": 20000}))
        self.assertEqual(asked(self, order_rooms, HAND, sender, (0,), 9999), (3,))
        self.assertEqual(asked(self, order_rooms, HAND, sender, (0,), 10 ** 9), (TooMany, {"most": 20000}))
        self.assertEqual(asked(self, order_rooms, BURST, (1, ((0, 0, (9,) * 5, ()),)), (0, 1, 2, 3, 4), 3), (TooMany, {"most": 1000}))

    def test_many(self):
        rng = seeded(4503)
        there = 0
        for _ in range(150):
            works = random_works(rng, kinds=rng.randint(1, 3), recipes=rng.randint(0, 5), most=2)
            sender = weak_sender(rng, works, rng.randint(1, 4), rng.randint(0, 7))
            order = tuple(rng.sample(range(len(works[2])), len(works[2])))
            there += self.check(works, sender, order, rng.randint(0, 8)) is not None
        self.assertGreater(there, 30)


class OrdersTest(unittest.TestCase):

    def check(self, works, sender, rooms):
        told = asked(self, good_orders, works, sender, rooms)
        orders = itertools.permutations(range(len(works[2])))
        self.assertEqual(told, [order for order in orders if slow_walk(works, sender, order, rooms)[1] is None])
        return told

    def test_small_ones(self):
        self.assertEqual(self.check(BARE, (1, ()), (0,)), [()])
        self.assertEqual(self.check(BARE, (1, ((0, 0, (1,), ()),)), (0,)), [])
        self.assertEqual(self.check(HAND, (1, ((0, 0, (1,), (1,)),)), (0,)), [(0,)])
        self.assertEqual(self.check((HAND[0], HAND[1], HAND[2] * 3), (1, ((0, 0, (1,), (1,)),)), (0,)), sorted(itertools.permutations(range(3))))

    def test_no_order_but_some_builder(self):
        # Of what comes first, c is to be left; of what comes last, b.
        works = (("a", "b", "c"), (), (((1, 1, 0), (0, 0, 0), None), ((1, 0, 1), (0, 0, 0), None)))
        sender = (3, ((0, 2, (1, 1, 1), ()), (2, 2, (1, 0, 1), ()), (2, 1, (1, 1, 1), ())))
        self.assertEqual(self.check(works, sender, (0, 1, 1)), [])
        self.assertIs(are_enough(works, sender, (0, 1, 1)), True)
        self.assertEqual(self.check(works, (3, sender[1][:2]), (0, 1, 1)), [(0, 1), (1, 0)])

    def test_many(self):
        rng = seeded(4504)
        seen = {"all": 0, "some": 0, "none": 0}
        for _ in range(300):
            works = random_works(rng, kinds=rng.randint(2, 3), hands=1, recipes=rng.randint(2, 4), most=1)
            sender = weak_sender(rng, works, rng.randint(1, 3), rng.randint(2, 4))
            rooms = tuple(rng.randint(1, 3) for _ in works[0])
            told = self.check(works, sender, rooms)
            every = len(list(itertools.permutations(works[2])))
            seen["none" if not told else "all" if len(told) == every else "some"] += 1
        self.assertGreater(min(seen.values()), 5, seen)

    def test_what_makes_orders_unlike(self):
        # One beat alone, for which the order counts: by a hand, by a kind, by what is fed, by what is fed on the way.
        hand = (("a", "b"), ("h",), (((1, 0), (0, 0), "h"), ((0, 1), (0, 0), "h")))
        once = (2, ((0, 1, (1, 1), (1,)),))
        self.assertEqual([self.check(hand, once, (0, 1)), self.check(hand, once, (1, 0))], [[(0, 1)], [(1, 0)]])
        free = (2, ((0, 1, (1, 1), ()),))
        self.assertEqual([self.check(CHOICE, free, (0, 1)), self.check(CHOICE, free, (0, 0))], [[(0, 1), (1, 0)], [(1, 0)]])
        feed, out, make = ((1, 0, 0), (0, 0, 1), None), ((0, 0, 1), (0, 0, 0), "h"), ((0, 1, 0), (0, 0, 0), "h")
        once = (2, ((0, 1, (1, 1, 0), (1,)),))
        for recipes, good in (((out, feed, make), [(0, 1, 2), (1, 0, 2)]), ((out, make, feed), [(0, 2, 1), (2, 0, 1)]),
                              ((make, out, feed), [(1, 2, 0), (2, 1, 0)])):
            self.assertEqual(self.check((("a", "b", "c"), ("h",), recipes), once, (0, 1, 0)), good)
        both = (("a", "b"), (), (((1, 0), (0, 1), None), ((1, 1), (0, 0), None)))
        self.assertEqual(self.check(both, (2, ((0, 1, (2, 0), ()),)), (0, 0)), [(1, 0)])

    def test_many_beats_alone(self):
        rng = seeded(4507)
        some = 0
        for _ in range(400):
            works = random_works(rng, kinds=rng.randint(2, 4), hands=rng.randint(0, 2), recipes=rng.randint(2, 4), most=rng.choice((1, 1, 2)))
            amounts, crew = [tuple(rng.randint(0, most) for _ in part) for part, most in ((works[0], 4), (works[1], 2))]
            told = self.check(works, (2, ((0, 1, amounts, crew),)), tuple(rng.randint(0, 3) for _ in works[0]))
            some += 0 < len(told) < len(list(itertools.permutations(works[2])))
        self.assertGreater(some, 40)

    def test_six_recipes(self):
        # Some feed others, some go by the same hand, some take of one kind, some are nothing to each other.
        rng = seeded(4506)
        seen = {"some": 0, "all or none": 0}
        while min(seen.values()) < 3:
            works = random_works(rng, kinds=3, hands=2, recipes=6, most=1)
            sender = weak_sender(rng, works, 2, 3)
            told = asked(self, good_orders, works, sender, (1, 1, 2))
            every = list(itertools.permutations(range(6)))
            self.assertEqual(told, [order for order in every if order_keeps(works, sender, order, (1, 1, 2))])
            seen["some" if 0 < len(told) < 720 else "all or none"] += 1

    def test_many_positions(self):
        # Nothing is ever done, or all there is, for each order alike.
        stuck = (("a", "b"), ("h",), tuple(((one, other), (0, 0), "h") for one, other in ((1, 0), (0, 1), (2, 1), (1, 1), (0, 3), (4, 4))))
        sender = (1, ((0, 0, (1, 0), (0,)), (0, 0, (0, 1), (0,))))
        self.assertEqual(asked(self, good_orders, stuck, sender, (140, 140)), [])
        self.assertEqual(pile_run(stuck, sender, (5, 4, 3, 2, 1, 0), (140, 140)), (0,) * 141)
        fours = tuple((tuple(4 * int(at == kind) for at in range(5)), (0,) * 5, None) for kind in range(5))
        works = (("a", "b", "c", "d", "e"), (), fours)
        ring = (10, tuple((at, (at + 1) % 10, tuple(int(at % 5 == kind) for kind in range(5)), ()) for at in range(10))
                + tuple((at, at, tuple(3 * int(at % 5 == kind) for kind in range(5)), ()) for at in range(10)))
        self.assertEqual(good_orders(works, ring, (3,) * 5), list(itertools.permutations(range(5))))
        self.assertEqual(len(order_positions(works, ring, (0, 1, 2, 3, 4), (3,) * 5)), 10 * 4 ** 5)

    def test_too_many(self):
        seven = (HAND[0], HAND[1], HAND[2] * 7)
        self.assertEqual(asked(self, good_orders, seven, (1, ()), (0,)), (TooMany, {"most": 6}))
        self.assertEqual(asked(self, good_orders, seven, (20001, ()), (0,)), (TooMany, {"most": 6}))
        self.assertEqual(asked(self, good_orders, FULL, (1, ((0, 0, (9,) * 5, (9,) * 3),)), (0,) * 5), (TooMany, {"most": 6}))
        self.assertEqual(len(good_orders((HAND[0], HAND[1], HAND[2] * 6), (1, ()), (0,))), 720)
        self.assertEqual(asked(self, good_orders, HAND, (20001, ()), (0,)), (TooMany, {"most": 20000}))
        self.assertEqual(asked(self, good_orders, BURST, (1, ((0, 0, (9, 0, 0, 0, 0), ()),)), (0,) * 5), (TooMany, {"most": 1000}))
        # Raised for one order alone: for others e goes out ahead of what makes more of it.
        works = (BURST[0], (), BURST[2][:4] + (((1, 0, 0, 0, 0), (0,) * 5, None),))
        self.assertEqual(asked(self, good_orders, works, (1, ((0, 0, (9, 0, 0, 0, 0), ()),)), (0,) * 5), good_orders_slow(works))

    def test_up_to_the_bounds(self):
        rng = seeded(4505)
        works = random_works(rng, 2, 3, 6)
        sender = weak_sender(rng, works, 10, 24)
        self.check(works, sender, (2, 2))
        # As many positions as may be: the heaps of two kinds that never go out grow up to the rooms.
        full = (("a", "b"), (), ())
        sender = (1, ((0, 0, (1, 0), ()), (0, 0, (0, 1), ())))
        self.assertEqual(pile_run(full, sender, (), (140, 140)), (0,) * 141)
        ring = (10, tuple((at, (at + 1) % 10, (9,), (9,)) for at in range(10)) + tuple((at, at, (0,), (at % 10,)) for at in range(10)))
        self.assertEqual(order_rooms(HAND, ring, (0,), 1999), (0,))
        self.assertEqual(pile_run(WORKS, (1, ((0, 0, (0, 0, 0), (1,)),)), (0, 1), (9, 9, 9)), None)


def good_orders_slow(works):
    """What good_orders tells of nine things at each beat without rooms: the first order that has too many deeds, or all good ones."""
    found = []
    for order in itertools.permutations(range(len(works[2]))):
        positions, run = slow_walk(works, (1, ((0, 0, (9, 0, 0, 0, 0), ()),)), order, (0,) * 5)
        if isinstance(positions, tuple):
            return positions
        if run is None:
            found.append(order)
    return found


if __name__ == "__main__":
    unittest.main()
