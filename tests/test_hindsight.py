"""[33]: rooms that are kept in hindsight."""

import itertools
import unittest

from neverheaps.errors import TooMany
from neverheaps.hindsight import breaking_run, heaps_in, least_hindsight
from neverheaps.leastrooms import least_rooms
from neverheaps.tables import are_enough
from tests import slow
from tests.samples import BARE, FULL, asked, random_run, seeded
from tests.test_leastrooms import least_of_all
from tests.test_tables import CHOICE, GREAT, LATER, ONE, TURN, choice_case, great_sender, random_case

# By each beat some of the recipes is done, or not: the lists of heaps grow in many ways.
TWO = (("a", "b"), ("h",), (((1, 0), (0, 0), "h"), ((0, 1), (0, 0), "h")))


class HeapsInTest(unittest.TestCase):

    def test_words(self):
        self.assertEqual(asked(self, heaps_in, ONE, TURN, (1,), ()), [[(0,)]])
        self.assertEqual(asked(self, heaps_in, ONE, TURN, (1,), (0, 1, 0, 1)), [[(0,)], [(0,)], [(1,)], [(0,), (1,)], [(1,)]])
        self.assertEqual(asked(self, heaps_in, ONE, TURN, (2,), (0, 1, 0, 1)), [[(0,)], [(0,)], [(1,)], [(0,), (1,)], [(1,), (2,)]])
        self.assertEqual(asked(self, heaps_in, CHOICE, LATER, (1, 1, 1), (0, 2)),
                         [[(0, 0, 0)], [(0, 0, 1), (0, 1, 0), (1, 1, 1)], [(0, 1, 1)]])
        # What is kept by a play that breaks later counts up to there.
        self.assertEqual(asked(self, heaps_in, CHOICE, LATER, (0, 1, 1), (0, 1)),
                         [[(0, 0, 0)], [(0, 0, 1), (0, 1, 0)], [(0, 1, 1)]])

    def test_nothing_behind_a_beat_that_breaks(self):
        sender = (1, ((0, 0, (2,), (1,)), (0, 0, (0,), (1,))))
        self.assertEqual(asked(self, heaps_in, ONE, sender, (1,), (0, 0, 1, 0)), [[(0,)], [(1,)], [], [], []])
        self.assertEqual(asked(self, heaps_in, ONE, sender, (0,), (0, 1)), [[(0,)], [], []])

    def test_many(self):
        rng = seeded(3301)
        for turn in range(200):
            works, sender, rooms = choice_case(rng) if turn % 2 else random_case(rng)
            run = random_run(rng, sender, 15)
            self.assertEqual(asked(self, heaps_in, works, sender, rooms, run), slow.heaps_in(works, sender, rooms, run))

    def test_up_to_the_bounds(self):
        rng = seeded(3302)
        sender, run = great_sender(seeded(199)), [0]
        while len(run) < 400:
            run.append(rng.choice(slow.steps(sender, sender[1][run[-1]][1])))
        lists = asked(self, heaps_in, GREAT, sender, (4, 1, 1, 4, 2), tuple(run))
        self.assertEqual([len(lists), min(map(len, lists)) > 0], [401, True])


class BreakingRunTest(unittest.TestCase):

    def check(self, works, sender, rooms):
        """The run that breaks, or None."""
        told = asked(self, breaking_run, works, sender, rooms)
        runs = [run for (_, heaps), run in slow.couples(works, sender, rooms).items() if not heaps]
        self.assertEqual(told, min(runs, key=lambda run: (len(run), run), default=None))
        if told is not None:
            lists = slow.heaps_in(works, sender, rooms, told)
            self.assertEqual([lists[-1], all(lists[:-1])], [[], True])
            self.assertIs(are_enough(works, sender, rooms), False)
        return told

    def test_the_example(self):
        self.assertEqual(self.check(CHOICE, LATER, (0, 0, 1)), (0, 1))
        self.assertIsNone(self.check(CHOICE, LATER, (0, 1, 1)))
        self.assertIs(are_enough(CHOICE, LATER, (0, 1, 1)), False)
        self.assertEqual(self.check(ONE, TURN, (0,)), (0, 1))
        self.assertIsNone(self.check(ONE, TURN, (1,)))

    def test_the_shortest_and_least_one(self):
        sender = (2, ((0, 1, (0,), (0,)), (0, 1, (1,), (0,)), (1, 0, (2,), (0,)), (1, 0, (1,), (0,)), (0, 0, (3,), (0,))))
        self.assertEqual(self.check(ONE, sender, (2,)), (4,))
        self.assertEqual(self.check(ONE, sender, (3,)), (4, 1))
        self.assertEqual(self.check(ONE, (2, sender[1][:4]), (2,)), (1, 2))
        self.assertEqual(self.check(ONE, (2, sender[1][:4]), (3,)), (1, 2, 1))
        self.assertEqual(self.check(BARE, (1, ((0, 0, (1,), ()), (0, 0, (1,), ()))), (0,)), (0,))

    def test_what_is_enough_is_kept_in_hindsight(self):
        rng = seeded(3303)
        seen = {}
        for turn in range(300):
            works, sender, rooms = choice_case(rng) if turn % 2 else random_case(rng)
            couple = (are_enough(works, sender, rooms), self.check(works, sender, rooms) is None)
            seen[couple] = seen.get(couple, 0) + 1
        self.assertEqual(set(seen), {(True, True), (False, True), (False, False)})
        self.assertGreater(min(seen.values()), 8)

    def test_too_many_couples(self):
        # Behind so many arrows that bring one thing each there are as many lists, and one that is empty.
        sender = (1, ((0, 0, (1,), ()), (0, 0, (0,), ())))
        self.assertEqual(asked(self, breaking_run, BARE, sender, (1998,)), (0,) * 1999)
        for room in (1999, 2500):
            self.assertEqual(asked(self, breaking_run, BARE, sender, (room,)), (TooMany, {"most": 2000}))
        # Whether one breaks or not: here the first arrow does, and here no one.
        self.assertEqual(asked(self, breaking_run, BARE, (1, ((0, 0, (2999,), ()),) + sender[1]), (2998,)), (TooMany, {"most": 2000}))
        chain = tuple((place, place + 1, (1,), ()) for place in range(4))
        wide = (5, chain + tuple((4, 4, (0,), ()) for _ in range(3)))
        self.assertIsNone(breaking_run(BARE, wide, (500,)))
        slow_growth = (1, ((0, 0, (1, 0), (0,)), (0, 0, (0, 1), (0,)), (0, 0, (0, 0), (1,))))
        self.assertEqual(asked(self, breaking_run, TWO, slow_growth, (50, 50)), (TooMany, {"most": 2000}))

    def test_couples_of_a_place_and_a_list(self):
        # The same lists come about at two places, the empty one too.
        sender = (2, ((0, 1, (1,), ()), (1, 0, (0,), ())))
        self.assertEqual(asked(self, breaking_run, BARE, sender, (998,)), (0, 1) * 998 + (0,))
        self.assertEqual(len(slow.couples(BARE, sender, (20,))), 21 + 20 + 2)
        self.assertEqual(asked(self, breaking_run, BARE, sender, (999,)), (TooMany, {"most": 2000}))

    def test_up_to_the_bounds(self):
        self.assertIsNone(breaking_run(GREAT, great_sender(seeded(199)), (4, 1, 1, 4, 2)))


class LeastHindsightTest(unittest.TestCase):

    def check(self, works, sender, most):
        """The least rooms, each of which is asked for by itself."""
        told = asked(self, least_hindsight, works, sender, most)
        everywhere = itertools.product(range(most + 1), repeat=len(works[0]))
        self.assertEqual(told, least_of_all([rooms for rooms in everywhere if breaking_run(works, sender, rooms) is None]))
        return told

    def test_the_example(self):
        self.assertEqual(self.check(CHOICE, LATER, 1), [(0, 1, 1)])
        self.assertEqual(self.check(CHOICE, LATER, 0), [])
        self.assertEqual(self.check(ONE, TURN, 0), [])
        self.assertEqual(self.check(ONE, TURN, 6), [(1,)])

    def test_many(self):
        rng = seeded(3304)
        found, other = 0, 0
        for turn in range(100):
            works, sender, _ = choice_case(rng) if turn % 2 else random_case(rng)
            most = rng.randint(0, 3 if len(works[0]) < 3 else 2)
            told = self.check(works, sender, most)
            found += len(told)
            other += told != least_rooms(works, sender, most)
        self.assertGreater(found, 40)
        self.assertGreater(other, 5)

    def test_errors(self):
        kinds = ("a", "b", "c", "d", "e")
        for size, most, fits in ((1, 6, True), (2, 6, True), (3, 4, True), (3, 5, False), (4, 2, True), (4, 3, False), (5, 2, False)):
            told = asked(self, least_hindsight, (kinds[:size], (), ()), (1, ()), most)
            self.assertEqual(told, [(0,) * size] if fits else (TooMany, {"most": 200}))
        plain = (("a",), (), (((1,), (0,), None),))
        self.assertEqual(asked(self, least_hindsight, BARE, (1501, ()), 1), (TooMany, {"most": 3000}))
        self.assertEqual(asked(self, least_hindsight, FULL, (3001, ()), 2), (TooMany, {"most": 200}))
        self.assertEqual(asked(self, least_hindsight, plain, (1, ((0, 0, (4999,), ()),)), 1), (TooMany, {"most": 5000}))

    def test_too_many_couples(self):
        # A chain of places, each with so many lists as there are things brought, up to 6.
        chain = [(place, place + 1, (0,), ()) for place in range(279)] + [(0, 0, (1,), ())]
        for places, fits in ((250, True), (251, False)):
            sender = (places, tuple(arrow for arrow in chain if arrow[1] < places))
            told = asked(self, least_hindsight, BARE, sender, 6)
            self.assertEqual(told, [] if fits else (TooMany, {"most": 2000}))

    def test_up_to_the_bounds(self):
        two = (("a", "b"), ("h", "k"), (((1, 0), (0, 0), "h"), ((0, 1), (0, 0), "k"), ((1, 0), (0, 1), None)))
        rng = seeded(3202)
        arrows = tuple((at % 10, rng.randrange(10), (rng.randint(0, 2), rng.randint(0, 1)), (2, rng.randint(1, 3))) for at in range(24))
        self.assertTrue(self.check(two, (10, arrows), 6))
        self.assertTrue(asked(self, least_hindsight, GREAT, great_sender(seeded(199)), 1) is not None)


if __name__ == "__main__":
    unittest.main()
