"""[35]: builders whose heaps are nowhere greater than those of anyone else."""

import unittest

from neverheaps.errors import NoLeast, NotEnough, TooMany
from neverheaps.forms import is_play
from neverheaps.hindsight import breaking_run, heaps_in
from neverheaps.leastplay import least_break, lowest_play
from neverheaps.play import keeps_rooms, played
from tests import slow
from tests.samples import BARE, asked, random_run, seeded
from tests.test_tables import CHOICE, GREAT, LATER, ONE, TURN, choice_case, great_sender, random_case


class LeastTest(unittest.TestCase):

    def check(self, works, sender, rooms, runs=()):
        """The run behind which no builder is least, None if one is; or NotEnough, with the run that breaks."""
        told = asked(self, least_break, works, sender, rooms)
        breaking = breaking_run(works, sender, rooms)
        if breaking is not None:
            self.assertEqual(told, (NotEnough, {"run": breaking}))
        elif told is not None:
            self.assertTrue(slow.is_bad(works, sender, rooms, told))
            ahead = [run for run in slow.runs(sender, len(told)) if run and (len(run), run) < (len(told), told)]
            self.assertFalse(any(slow.is_bad(works, sender, rooms, run) for run in ahead))
        for run in runs:
            play = asked(self, lowest_play, works, sender, rooms, run)
            if breaking is not None:
                self.assertEqual(play, (NotEnough, {"run": breaking}))
            elif told is not None:
                self.assertEqual(play, (NoLeast, {"run": told}))
            else:
                self.assertTrue(is_play(works, sender, run, play) and keeps_rooms(works, sender, run, play, rooms))
                least = [slow.least_of(lists) for lists in heaps_in(works, sender, rooms, run)]
                self.assertEqual(played(works, sender, run, play), least[1:])
        return told

    def test_the_example(self):
        self.assertEqual(self.check(CHOICE, LATER, (0, 1, 1), [(), (0,), (0, 1)]), (0,))
        self.assertIsNone(self.check(ONE, TURN, (1,), [(), (0,), (0, 1, 0, 1), (0, 1) * 200]))
        self.assertEqual(lowest_play(ONE, TURN, (1,), (0, 1, 0)), [(), (), (0,)])
        self.assertEqual(self.check(ONE, TURN, (0,), [(), (0, 1)]), (NotEnough, {"run": (0, 1)}))

    def test_the_last_arrow_has_to_lead_from_the_least_heaps(self):
        # A hand takes two or three: who has taken two has nothing, and one thing later; who waits can have nothing then.
        works, loop = (("a",), ("h",), (((2,), (0,), "h"), ((3,), (0,), "h"))), (1, ((0, 0, (1,), (1,)),))
        self.assertEqual(heaps_in(works, loop, (4,), (0, 0, 0))[2:], [[(0,), (2,)], [(0,), (1,), (3,)]])
        self.assertEqual(self.check(works, loop, (4,), [(), (0, 0, 0, 0)]), (0, 0, 0))
        # With less room nobody can wait.
        self.assertIsNone(self.check(works, loop, (1,), [(), (0,) * 9]))

    def test_of_several_heaps_none_is_least(self):
        # One hand takes one of two kinds.
        either = (("a", "b"), ("h",), (((0, 1), (0, 0), "h"), ((1, 0), (0, 0), "h")))
        sender = (2, ((0, 1, (1, 1), (1,)), (1, 1, (0, 0), (1,))))
        self.assertEqual(self.check(either, sender, (1, 1), [(0, 1, 1)]), (0,))
        self.assertIsNone(self.check(either, sender, (0, 1), [(0, 1, 1)]))

    def test_both_ways_at_random(self):
        rng = seeded(3501)
        kinds = {"none": 0, "unled": 0}
        for _ in range(1500):
            works, sender, rooms = random_case(rng)
            if breaking_run(works, sender, rooms) is None:
                told = self.check(works, sender, rooms)
                if told is not None:
                    last = slow.least_of(slow.heaps_in(works, sender, rooms, told)[-1])
                    kinds["none" if last is None else "unled"] += 1
        self.assertGreater(min(kinds.values()), 5)

    def test_without_arrows_and_without_recipes(self):
        self.assertIsNone(self.check(BARE, (1, ()), (0,), [()]))
        self.assertIsNone(self.check(BARE, (2, ((0, 1, (1,), ()),)), (1,), [(), (0,)]))
        self.assertEqual(self.check(BARE, (2, ((0, 1, (1,), ()),)), (0,), [(), (0,)]), (NotEnough, {"run": (0,)}))
        self.assertEqual(lowest_play(BARE, (2, ((0, 1, (1,), ()),)), (1,), (0,)), [()])

    def test_many(self):
        rng = seeded(3502)
        seen = {"least": 0, "not": 0, "broken": 0}
        for turn in range(250):
            works, sender, rooms = choice_case(rng) if turn % 2 else random_case(rng)
            told = self.check(works, sender, rooms, [random_run(rng, sender, 12) for _ in range(2)])
            broken = breaking_run(works, sender, rooms) is not None
            seen["broken" if broken else "least" if told is None else "not"] += 1
        self.assertGreater(min(seen.values()), 25)

    def test_the_order_of_errors(self):
        # More than 2,000 couples, one of them with an empty list: that comes ahead of NotEnough.
        sender = (1, ((0, 0, (1,), ()), (0, 0, (0,), ())))
        for function, more in ((least_break, ()), (lowest_play, ((),)), (lowest_play, ((0, 0),))):
            self.assertEqual(asked(self, function, BARE, sender, (1998,), *more), (NotEnough, {"run": (0,) * 1999}))
            self.assertEqual(asked(self, function, BARE, sender, (1999,), *more), (TooMany, {"most": 2000}))
        # A run without a least builder comes ahead of the one that breaks, and is not told.
        both = (4, LATER[1] + ((2, 3, (0, 9, 0), ()),))
        self.assertEqual(self.check(CHOICE, both, (0, 1, 1), [()]), (NotEnough, {"run": (0, 1, 3)}))

    def test_up_to_the_bounds(self):
        rng = seeded(3503)
        two = (("a", "b"), ("h", "k"), (((1, 0), (0, 0), "h"), ((0, 1), (0, 0), "k"), ((2, 0), (0, 0), "h")))
        arrows = tuple((at % 10, rng.randrange(10), (rng.randint(0, 2), rng.randint(0, 1)), (2, 1)) for at in range(24))
        run = [0]
        while len(run) < 400:
            run.append(rng.choice(slow.steps((10, arrows), arrows[run[-1]][1])))
        self.assertIsNone(self.check(two, (10, arrows), (2, 1), [tuple(run)]))
        self.assertEqual(self.check(GREAT, great_sender(seeded(199)), (2, 1, 1, 2, 1)), (10, 20))


if __name__ == "__main__":
    unittest.main()
