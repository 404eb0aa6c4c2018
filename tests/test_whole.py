"""[5], [6], [8] to [10]: what different modules tell of the same things agrees."""

import unittest
from fractions import Fraction

from neverheaps.against import bears_all, parting_sender
from neverheaps.ahead import keeps_ahead
from neverheaps.apart import is_apart, least_heaps
from neverheaps.book import Book
from neverheaps.bounds import rooms_told
from neverheaps.errors import Gains, NeverHelps, TooMany
from neverheaps.factor import least_factor, ring_factor
from neverheaps.hindsight import breaking_run, heaps_in
from neverheaps.held import holds, why, why_not
from neverheaps.leastrooms import least_rooms
from neverheaps.loss import least_loss, ring_loss
from neverheaps.parts import breaker_of, bringer_of, either, without_arrows
from neverheaps.piles import good_orders, order_keeps
from neverheaps.plans import plan_of
from neverheaps.play import is_within
from neverheaps.rings import rings_of, sum_of
from neverheaps.side import beside, holds_apart
from neverheaps.tables import are_enough, safe_positions, table_for
from neverheaps.tariffs import book_of, pay, worth
from neverheaps.thrower import Thrower
from neverheaps.tracker import Tracker
from neverheaps.trees import tree_against
from neverheaps.wanting import bad_rings, barring, wanting
from neverheaps.ways import can_work_off, is_way, ways_of
from tests.samples import random_run, random_works, seeded
from tests.test_apart import random_apart
from tests.test_held import weak_sender


class WholeTest(unittest.TestCase):

    def samples(self, seed, many, **sizes):
        rng = seeded(seed)
        for _ in range(many):
            works = random_works(rng, most=rng.choice((1, 2, 4)), **sizes)
            yield rng, works, weak_sender(rng, works, rng.randint(1, 4), rng.randint(0, 7))

    def answer(self, function, *given):
        try:
            return function(*given)
        except (Gains, NeverHelps, TooMany) as error:
            return type(error)

    def test_whether_a_sender_is_held(self):
        seen = {True: 0, False: 0}
        for rng, works, sender in self.samples(5001, 150):
            held = holds(works, sender)
            rings = rings_of(sender)
            seen[held] += bool(rings)
            shares = [can_work_off(works, *sum_of(works, sender, ring)) is not None for ring in rings]
            self.assertEqual([why_not(works, sender) is None, why(works, sender) is not None, all(shares)], [held] * 3)
            self.assertEqual(bad_rings(works, sender), [ring for ring, fits in zip(rings, shares) if not fits])
            self.assertEqual([self.answer(plan_of, works, sender, ring) != Gains for ring in rings], shares)
            self.assertEqual([barring(works, sender, 0) == [()], wanting(works, sender, ()) == [()]], [held] * 2)
            ones = (1,) * len(works[0])
            self.assertEqual([ring_loss(works, sender, ring, ones) == (0, 1) for ring in rings], shares)
            self.assertIs(least_loss(works, sender, ones) == (0, 1), held)
            factors = [self.answer(ring_factor, works, sender, ring) for ring in rings]
            self.assertEqual([factor != NeverHelps and Fraction(*factor) <= 1 for factor in factors], shares)
            factor = self.answer(least_factor, works, sender)
            self.assertIs(factor != NeverHelps and Fraction(*factor) <= 1, held)
            self.assertIs(self.answer(Tracker, works, sender) != Gains, held)
            self.assertIs(self.answer(rooms_told, works, sender) != Gains, held)
            book = Book(works)
            book.send("s", sender)
            told = [book.held() == ["s"], book.is_kept(("hold", "s")), book.is_kept(("factor", "s", (1, 1)))]
            self.assertEqual(told, [held] * 3)
        self.assertGreater(min(seen.values()), 30)

    def test_a_works_bears_by_ways_and_by_books(self):
        for rng, works, sender in self.samples(5002, 60):
            self.assertTrue(all(is_way(works, way) for way in ways_of(works)))
            for ring in rings_of(sender)[:5]:
                amounts, crew = sum_of(works, sender, ring)
                fits = all(worth(tariff, amounts) <= pay(tariff, crew) for tariff in book_of(works))
                alone = (1, ((0, 0, amounts, crew),))
                self.assertIs(holds(works, alone), fits)
                # What one of its rings brings at once is held by a works that bears all that this one does.
                more = (works[0], works[1], works[2] + works[2][:1])
                self.assertTrue(bears_all(more, works) and parting_sender(more, works) is None)
                self.assertIs(holds(more, alone), fits)

    def test_rooms_that_are_told_are_enough(self):
        # By tables, as far as there are not too many positions.
        told = 0
        for rng, works, sender in self.samples(5003, 400, kinds=1, hands=1, recipes=2):
            if holds(works, sender) and self.answer(are_enough, works, sender, rooms_told(works, sender)) != TooMany:
                told += 1
                rooms = rooms_told(works, sender)
                self.assertIs(are_enough(works, sender, rooms), True)
                least = least_rooms(works, sender, 6)
                self.assertIs(bool(least) or rooms[0] > 6, True)
                tracker = Tracker(works, sender)
                for index in random_run(rng, sender, 60):
                    tracker.beat(index)
                    self.assertTrue(is_within(tracker.heaps(), rooms))
        self.assertGreater(told, 50)

    def test_tables_trees_orders_and_hindsight(self):
        seen = {True: 0, False: 0}
        for rng, works, sender in self.samples(5004, 200, kinds=2, hands=1, recipes=3):
            rooms = (rng.randint(0, 5), rng.randint(0, 5))
            enough = are_enough(works, sender, rooms)
            seen[enough] += 1
            table, tree = table_for(works, sender, rooms), tree_against(works, sender, rooms)
            self.assertEqual([table is not None, tree is None, keeps_ahead(works, sender, rooms, 0)], [enough] * 3)
            self.assertIs((0, (0, 0)) in safe_positions(works, sender, rooms), enough)
            if enough:
                self.assertEqual(list(table), safe_positions(works, sender, rooms))
                self.assertIsNone(breaking_run(works, sender, rooms))
                # Told rooms that are kept show that the sender is held.
                self.assertIs(holds(works, sender), True)
                self.assertIs(are_enough(works, sender, (rooms[0] + 1, rooms[1])), True)
            else:
                places = [(place, (one, other)) for place in range(sender[0]) for one in range(rooms[0] + 1) for other in range(rooms[1] + 1)]
                self.assertEqual(list(tree), [position for position in places if position not in safe_positions(works, sender, rooms)])
                self.assertEqual(good_orders(works, sender, rooms), [])
            for order in good_orders(works, sender, rooms):
                self.assertIs(order_keeps(works, sender, order, rooms), True)
            self.assertIs(any(least == rooms or is_within(least, rooms) for least in least_rooms(works, sender, 5)), enough)
            book = Book(works)
            book.send("s", sender)
            self.assertIs(book.is_kept(("rooms", "s", rooms)), enough)
        self.assertGreater(min(seen.values()), 40)

    def test_side_by_side(self):
        seen = {True: 0, False: 0}
        for rng, works, sender in self.samples(5005, 150):
            bringer, breaker = bringer_of(sender), breaker_of(weak_sender(rng, works, 2, 3))
            held = holds_apart(works, bringer, (breaker,))
            seen[held] += 1
            both = beside((bringer, breaker))
            self.assertIs(holds(works, both), held)
            self.assertIs(holds(works, either(both, both)), held)
            self.assertIs(least_loss(works, both, (1,) * len(works[0])) == (0, 1), held)
            factor = self.answer(least_factor, works, both)
            self.assertIs(factor != NeverHelps and Fraction(*factor) <= 1, held)
            # Nothing that brings less is held less.
            if held:
                self.assertIs(holds(works, beside((without_arrows(bringer, (0,)), breaker))), True)
        self.assertGreater(min(seen.values()), 30)

    def test_works_that_are_apart(self):
        rng = seeded(5006)
        kept = 0
        for _ in range(150):
            works = random_apart(rng)
            sender = weak_sender(rng, works, rng.randint(1, 3), rng.randint(1, 5))
            self.assertIs(is_apart(works), True)
            rooms = tuple(rng.randint(1, 3) for _ in works[0])
            told = self.answer(are_enough, works, sender, rooms)
            if told is TooMany:
                continue
            run = random_run(rng, sender, 8)
            lists = heaps_in(works, sender, rooms, run)
            heaps = least_heaps(works, sender, run)
            # Doing all at once keeps whatever rooms can be kept.
            self.assertTrue(not lists[-1] or heaps in lists[-1])
            if told:
                kept += 1
                self.assertTrue(is_within(heaps, rooms))
                self.assertTrue(all(is_within(heaps, other) for other in lists[-1]))
                order = tuple(range(len(works[2])))
                self.assertIs(order_keeps(works, sender, order, rooms), True)
        self.assertGreater(kept, 20)

    def test_a_thrower_throws_nothing_where_all_is_held(self):
        many = 0
        for rng, works, sender in self.samples(5007, 150):
            if holds(works, sender):
                many += 1
                thrower = Thrower(works, sender, (1,) * len(works[0]))
                for index in random_run(rng, sender, 100):
                    _, thrown = thrower.beat(index)
                    self.assertFalse(any(thrown))
                self.assertEqual(thrower.paid(), 0)
        self.assertGreater(many, 40)


if __name__ == "__main__":
    unittest.main()
