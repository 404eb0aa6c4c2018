"""[42]: bringers and breakers, and senders made from senders."""

import unittest

from neverheaps.forms import is_sender
from neverheaps.held import holds
from neverheaps.parts import bringer_of, breaker_of, either, is_breaker, is_bringer, without_arrows
from neverheaps.tables import are_enough
from neverheaps.tracker import Tracker
from tests.samples import BARE, FULL, RINGS, SENDER, WORKS, asked, random_sender, random_works, seeded
from tests.test_held import weak_sender

BRINGER = (2, ((0, 1, (2, 0, 0), (0,)), (1, 0, (0, 0, 1), (0,))))
BREAKER = (3, ((0, 2, (0, 0, 0), (1,)), (2, 0, (0, 0, 0), (0,)), (1, 1, (0, 0, 0), (4,)), (2, 2, (0, 0, 0), (9,))))


class PartsTest(unittest.TestCase):

    def test_bringers_and_breakers(self):
        for sender, both in ((BRINGER, (True, False)), (BREAKER, (False, True)), (SENDER, (False, False)), (RINGS, (False, False)),
                             ((1, ()), (True, True)), ((1, ((0, 0, (0, 0), (0, 0)),)), (True, True)), ((1, ((0, 0, (1,), ()),)), (True, False)),
                             ((1, ((0, 0, (0,), ()),)), (True, True)), ((2, ((0, 1, (0, 0), (0, 0)), (0, 1, (0, 1), (0, 0)))), (True, False)),
                             ((2, ((0, 1, (0, 0), (0, 0)), (1, 1, (0, 0), (0, 1)))), (False, True))):
            self.assertIs(asked(self, is_bringer, sender), both[0])
            self.assertIs(asked(self, is_breaker, sender), both[1])

    def test_what_is_made_of_a_sender(self):
        self.assertEqual(asked(self, bringer_of, SENDER), BRINGER)
        self.assertEqual(asked(self, breaker_of, SENDER), (2, ((0, 1, (0, 0, 0), (1,)), (1, 0, (0, 0, 0), (0,)))))
        self.assertEqual([bringer_of(BRINGER), breaker_of(BREAKER), bringer_of((4, ())), breaker_of((4, ()))], [BRINGER, BREAKER, (4, ()), (4, ())])
        rng = seeded(4201)
        for _ in range(50):
            works = random_works(rng)
            sender = random_sender(rng, works)
            bringer, breaker = asked(self, bringer_of, sender), asked(self, breaker_of, sender)
            self.assertTrue(is_bringer(bringer) and is_breaker(breaker))
            self.assertTrue(is_sender(works, bringer) and is_sender(works, breaker))
            self.assertEqual([arrow[:3] for arrow in bringer[1]], [arrow[:3] for arrow in sender[1]])
            self.assertEqual([arrow[:2] + arrow[3:] for arrow in breaker[1]], [arrow[:2] + arrow[3:] for arrow in sender[1]])

    def test_either(self):
        self.assertEqual(asked(self, either, BRINGER, BREAKER), (6, (
            (0, 2, (2, 0, 0), (0,)), (0, 5, (0, 0, 0), (1,)),
            (1, 2, (2, 0, 0), (0,)), (2, 1, (0, 0, 1), (0,)),
            (3, 5, (0, 0, 0), (1,)), (5, 3, (0, 0, 0), (0,)), (4, 4, (0, 0, 0), (4,)), (5, 5, (0, 0, 0), (9,)),
        )))
        self.assertEqual(asked(self, either, (1, ()), (2, ())), (4, ()))
        loop = (1, ((0, 0, (1,), ()), (0, 0, (2,), ())))
        self.assertEqual(asked(self, either, loop, (1, ())), (3, ((0, 1, (1,), ()), (0, 1, (2,), ()), (1, 1, (1,), ()), (1, 1, (2,), ()))))
        self.assertEqual(asked(self, either, (1, ()), loop), (3, ((0, 2, (1,), ()), (0, 2, (2,), ()), (2, 2, (1,), ()), (2, 2, (2,), ()))))

    def test_either_is_held_exactly_if_both_are(self):
        rng = seeded(4202)
        seen = {}
        for _ in range(300):
            works = random_works(rng, most=2)
            one, other = weak_sender(rng, works, 2, rng.randint(0, 4)), weak_sender(rng, works, 3, rng.randint(0, 4))
            both = asked(self, either, one, other)
            self.assertTrue(is_sender(works, both))
            self.assertEqual(both[0], one[0] + other[0] + 1)
            told = holds(works, one), holds(works, other)
            self.assertIs(holds(works, both), all(told))
            seen[told] = seen.get(told, 0) + 1
        self.assertEqual(len(seen), 4)

    def test_rooms_of_either_are_those_of_both(self):
        rng = seeded(4203)
        for _ in range(60):
            works = random_works(rng, kinds=2, hands=1, recipes=3, most=2)
            one, other = weak_sender(rng, works, 2, 3), weak_sender(rng, works, 2, 3)
            for rooms in ((1, 1), (3, 3)):
                self.assertIs(are_enough(works, either(one, other), rooms), are_enough(works, one, rooms) and are_enough(works, other, rooms))

    def test_either_goes_by_one_of_both_for_good(self):
        tracker = Tracker((("a",), (), (((1,), (0,), None),)), either((1, ((0, 0, (1,), ()),)), (1, ((0, 0, (2,), ()),))))
        tracker.beat(1)
        self.assertEqual([tracker.stands_at(), tracker.heaps()], [2, (2,)])
        tracker.beat(3)
        self.assertEqual(tracker.stands_at(), 2)

    def test_without_arrows(self):
        self.assertEqual(asked(self, without_arrows, BREAKER, ()), BREAKER)
        self.assertEqual(asked(self, without_arrows, BREAKER, (1, 3)), (3, (BREAKER[1][0], BREAKER[1][2])))
        self.assertEqual(asked(self, without_arrows, BREAKER, (0, 1, 2, 3)), (3, ()))
        self.assertEqual(asked(self, without_arrows, (5, ()), ()), (5, ()))
        self.assertEqual(without_arrows(RINGS, (0,)), (4, RINGS[1][1:]))
        self.assertEqual(asked(self, either, BRINGER, BRINGER)[0], 5)
        self.assertEqual([is_bringer((1, ())), is_sender(BARE, either((1, ()), (1, ()))), is_sender(FULL, (3, ())), is_sender(WORKS, BREAKER)],
                         [True] * 4)


if __name__ == "__main__":
    unittest.main()
