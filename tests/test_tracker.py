"""[28], and [7]: a builder that never looks ahead, and keeps the told rooms on all runs."""

import unittest

from neverheaps.bounds import rooms_told
from neverheaps.errors import Gains, NoArrow, TooMany
from neverheaps.forms import is_deeds
from neverheaps.held import holds, why_not
from neverheaps.play import after, is_within, no_heaps
from neverheaps.tracker import Tracker
from tests.samples import BARE, FULL, MANY, RINGS, WORKS, any_values, asked, circle, random_works, seeded
from tests.test_held import weak_sender

ONE = (("a",), ("h",), (((1,), (0,), "h"),))
TURN = (2, ((0, 1, (1,), (0,)), (1, 0, (0,), (1,)), (1, 1, (0,), (0,))))
# Things are made of things three deep, by two hands and by none.
DEEP = (
    ("a", "b", "c", "d"), ("h", "k"),
    (
        ((0, 0, 0, 1), (0, 0, 0, 0), "k"), ((2, 0, 0, 0), (0, 1, 0, 0), "h"), ((0, 1, 0, 0), (0, 0, 2, 0), None),
        ((0, 0, 3, 0), (0, 0, 0, 1), "h"), ((0, 0, 1, 0), (0, 0, 0, 0), None),
    ),
)
DEEP_SENDER = (
    3,
    ((0, 1, (3, 0, 0, 0), (2, 0)), (1, 2, (0, 0, 0, 0), (1, 1)), (2, 0, (1, 1, 0, 1), (1, 2)), (1, 1, (0, 0, 0, 1), (0, 1)),
     (2, 1, (2, 0, 1, 0), (2, 0)), (1, 0, (0, 0, 0, 0), (3, 3))),
)


def state(tracker):
    return tracker.heaps(), tracker.stands_at(), tracker.log()


class TrackerTest(unittest.TestCase):

    def led(self, works, sender, choose, beats, rooms=None):
        """A tracker that is led so many beats: what it tells is right at each of them."""
        tracker, rooms = Tracker(works, sender), rooms or rooms_told(works, sender)
        heaps, place, run = no_heaps(works), 0, ()
        self.assertEqual(state(tracker), (heaps, 0, ()))
        for _ in range(beats):
            steps = [index for index, arrow in enumerate(sender[1]) if arrow[0] == place]
            if not steps:
                break
            index = choose(steps)
            deeds = tracker.beat(index)
            self.assertTrue(is_deeds(works, deeds))
            _, place, amounts, crew = sender[1][index]
            heaps = after(works, tuple(one + other for one, other in zip(heaps, amounts)), crew, deeds)
            run += (index,)
            self.assertTrue(is_within(heaps, rooms), (works, sender, run))
            self.assertEqual(state(tracker), (heaps, place, run))
        return tracker

    def test_the_example(self):
        tracker = Tracker(ONE, TURN)
        self.assertEqual([tracker.beat(0), tracker.heaps(), tracker.stands_at()], [(), (1,), 1])
        rooms = rooms_told(ONE, TURN)
        for _ in range(40):
            tracker.beat(1)
            tracker.beat(0)
            self.assertLessEqual(tracker.heaps(), rooms)
        self.assertEqual([len(tracker.log()), tracker.stands_at()], [81, 1])

    def test_what_is_worked_off_does_not_pile_up(self):
        # Far below what is told: by one hand a turn one thing a turn is left.
        tracker = self.led(ONE, TURN, lambda steps: steps[0], 400)
        self.assertLessEqual(tracker.heaps(), (5,))

    def test_things_made_of_things_do_not_pile_up(self):
        # What is made three deep goes out in the end, though the told rooms would have place for thousands of beats.
        rng = seeded(2805)
        for choose in (rng.choice, lambda steps: steps[0], lambda steps: steps[-1]):
            tracker, most = Tracker(DEEP, DEEP_SENDER), no_heaps(DEEP)
            for _ in range(3000):
                tracker.beat(choose([index for index, arrow in enumerate(DEEP_SENDER[1]) if arrow[0] == tracker.stands_at()]))
                most = tuple(max(one, other) for one, other in zip(most, tracker.heaps()))
            self.assertTrue(is_within(most, (10, 5, 30, 15)), most)

    def test_a_batch_goes_on_when_its_deeds_are_done(self):
        works = (("a", "b", "c"), ("h",), (((1, 0, 0), (0, 1, 0), "h"), ((0, 1, 0), (0, 0, 1), "h"), ((0, 0, 1), (0, 0, 0), "h")))
        tracker = Tracker(works, (1, ((0, 0, (1, 0, 0), (3,)), (0, 0, (0, 0, 0), (3,)))))
        self.assertEqual([tracker.beat(0) for _ in range(6)], [(), (0,), (0, 1), (0, 1, 2), (0, 1, 2), (0, 1, 2)])
        self.assertEqual(tracker.heaps(), (1, 1, 1))
        # Another arrow has no part in what is written.
        self.assertEqual([tracker.beat(1), tracker.beat(0), tracker.heaps()], [(), (0, 1, 2), (1, 1, 1)])

    def test_long_runs(self):
        rng = seeded(2801)
        for works, sender in ((ONE, TURN), (DEEP, DEEP_SENDER)):
            self.assertTrue(holds(works, sender))
            for _ in range(4):
                self.led(works, sender, rng.choice, 1000)
            for first in (0, -1):
                self.led(works, sender, lambda steps: steps[first], 400)

    def test_many_senders(self):
        rng = seeded(2802)
        many = 0
        while many < 120:
            works = random_works(rng, most=rng.choice((1, 2, 4)))
            sender = weak_sender(rng, works, rng.randint(1, 5), rng.randint(1, 12))
            if holds(works, sender):
                many += 1
                rooms = rooms_told(works, sender)
                self.led(works, sender, rng.choice, 150, rooms)
                # Mostly one way, so that there are many batches of one ring.
                self.led(works, sender, lambda steps: rng.choice(steps) if rng.random() < 0.1 else steps[0], 150, rooms)

    def test_runs_that_end(self):
        chain = (3, ((0, 1, (5,), (0,)), (1, 2, (4,), (9,))))
        tracker = self.led(ONE, chain, min, 9)
        self.assertEqual(tracker.stands_at(), 2)
        with self.assertRaises(NoArrow):
            tracker.beat(0)
        self.led(BARE, (1, ()), min, 1)
        self.led(BARE, (1, ((0, 0, (0,), ()),)), min, 9)

    def test_up_to_the_bounds(self):
        rng = seeded(2803)
        places = 10
        # Each arrow brings but a little of a raw kind, and has many hands.
        arrows = tuple((at % places, rng.randrange(places), (at % 2, 0, 0, 0, at % 3), (9, 9, 9)) for at in range(24))
        self.assertTrue(holds(FULL, (places, arrows)))
        self.led(FULL, (places, arrows), rng.choice, 400)
        self.led(ONE, circle(MANY, ((1,), (1,))), rng.choice, 400)

    def test_too_many_is_ahead_of_gains(self):
        for load in (((1,), (1,)), ((1,), (0,))):
            self.assertEqual(asked(self, Tracker, ONE, circle(MANY, load, 1)), (TooMany, {"most": 2000}))
        tracker = Tracker(ONE, circle(MANY, ((1,), (1,))))
        self.assertEqual(tracker.beat(0), ())
        reason = why_not(ONE, circle(MANY, ((1,), (0,))))
        self.assertEqual(asked(self, Tracker, ONE, circle(MANY, ((1,), (0,)))), (Gains, {"ring": reason[0], "tariff": reason[1]}))

    def test_gains(self):
        for works, sender in ((ONE, (1, ((0, 0, (1,), (0,)),))), (WORKS, RINGS), (BARE, (1, ((0, 0, (2,), ()),)))):
            ring, tariff = why_not(works, sender)
            self.assertEqual(asked(self, Tracker, works, sender), (Gains, {"ring": ring, "tariff": tariff}))

    def test_no_arrow(self):
        tracker = Tracker(ONE, TURN)
        tracker.beat(0)
        before = state(tracker)
        for index in [0, 3, -1, -2, True, False, None, "1", (1,), [1], {1: 1}, tracker, "", 10 ** 39] + any_values():
            if index not in (1, 2) or index is True:
                with self.assertRaises(NoArrow) as caught:
                    tracker.beat(index)
                self.assertIs(caught.exception.index, index)
                self.assertEqual(state(tracker), before)
        twin = Tracker(ONE, TURN)
        twin.beat(0)
        for index in (2, 1, 0, 1):
            self.assertEqual(tracker.beat(index), twin.beat(index))
        self.assertEqual(state(tracker), state(twin))

    def test_no_arrow_at_the_first_place(self):
        loop = (1, ((0, 0, (0,), (1,)), (0, 0, (0,), (0,))))
        tracker = Tracker(ONE, loop)
        for index in (True, False):
            with self.assertRaises(NoArrow):
                tracker.beat(index)
        self.assertEqual([tracker.beat(1), tracker.beat(0)], [(), ()])

    def test_twins_go_on_by_themselves(self):
        rng = seeded(2804)
        tracker, run = Tracker(DEEP, DEEP_SENDER), []
        for _ in range(60):
            twin, other = tracker.twin(), Tracker(DEEP, DEEP_SENDER)
            for index in run:
                other.beat(index)
            self.assertIsInstance(twin, Tracker)
            self.assertEqual(state(twin), state(tracker))
            before = state(tracker)
            for _ in range(12):
                steps = [index for index, arrow in enumerate(DEEP_SENDER[1]) if arrow[0] == twin.stands_at()]
                index = rng.choice(steps)
                self.assertEqual(twin.beat(index), other.beat(index))
                self.assertEqual(state(twin), state(other))
            self.assertEqual(state(tracker), before)
            steps = [index for index, arrow in enumerate(DEEP_SENDER[1]) if arrow[0] == tracker.stands_at()]
            run.append(rng.choice(steps))
            tracker.beat(run[-1])

    def test_a_twin_is_not_changed_by_its_tracker(self):
        tracker = Tracker(DEEP, DEEP_SENDER)
        for index in (0, 1, 2) * 5:
            tracker.beat(index)
        twin, other = tracker.twin(), tracker.twin()
        for index in (0, 1, 4, 5) * 5:
            tracker.beat(index)
        self.assertEqual([twin.beat(index) for index in (0, 1, 2) * 9], [other.beat(index) for index in (0, 1, 2) * 9])
        self.assertEqual(state(twin), state(other))


if __name__ == "__main__":
    unittest.main()
