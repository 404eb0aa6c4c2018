"""[34]: builders that look ahead."""

import unittest

from neverheaps.ahead import keeps_ahead, least_ahead
from neverheaps.errors import TooMany
from neverheaps.hindsight import breaking_run
from neverheaps.tables import are_enough
from tests import slow
from tests.samples import BARE, asked, seeded
from tests.test_tables import CHOICE, GREAT, LATER, ONE, TURN, choice_case, great_sender, random_case


def delayed(many, back=False):
    """The sender of the document's example with so many more arrows ahead of the choice; going on for ever, or not."""
    arrows = [(0, 1, (1, 1, 1), ())] + [(at, at + 1, (0, 0, 0), ()) for at in range(1, many + 1)]
    end = 0 if back else many + 2
    arrows += [(many + 1, end, (0, 1, 0), ()), (many + 1, end, (0, 0, 1), ())]
    return many + 3, tuple(arrows)


class AheadTest(unittest.TestCase):

    def check(self, works, sender, rooms):
        """For each number of arrows whether it does; the least one is told."""
        told = [asked(self, keeps_ahead, works, sender, rooms, many) for many in range(4)]
        self.assertEqual(told, [slow.keeps_ahead(works, sender, rooms, many) for many in range(4)])
        self.assertIs(told[0], are_enough(works, sender, rooms))
        self.assertEqual(told, sorted(told))
        self.assertEqual(asked(self, least_ahead, works, sender, rooms), told.index(True) if True in told else None)
        # What is kept by looking ahead is kept in hindsight.
        if told[3]:
            self.assertIsNone(breaking_run(works, sender, rooms))
        return told

    def test_the_example(self):
        self.assertEqual(self.check(CHOICE, LATER, (0, 1, 1)), [False, True, True, True])
        self.assertEqual(self.check(CHOICE, LATER, (1, 1, 1)), [True] * 4)
        self.assertEqual(self.check(CHOICE, LATER, (0, 0, 1)), [False] * 4)
        self.assertEqual(self.check(ONE, TURN, (1,)), [True] * 4)
        self.assertEqual(self.check(ONE, TURN, (0,)), [False] * 4)

    def test_so_far_ahead_as_the_choice(self):
        for many in range(4):
            sender = delayed(many)
            told = self.check(CHOICE, sender, (0, 1, 1))
            self.assertEqual(told, [False] * (many + 1) + [True] * (3 - many))
            self.assertIsNone(breaking_run(CHOICE, sender, (0, 1, 1)))

    def test_runs_that_never_end(self):
        # A free recipe takes what is left, once the choice is over.
        works = CHOICE[:2] + (CHOICE[2] + (((0, 1, 1), (0, 0, 0), None),),)
        for many in range(3):
            sender = delayed(many, True)
            told = self.check(works, sender, (0, 1, 1))
            self.assertEqual(told, [False] * (many + 1) + [True] * (3 - many))
        loop = (2, ((0, 1, (1, 1, 1), ()), (1, 0, (0, 1, 0), ()), (1, 0, (0, 0, 1), ())))
        twice = CHOICE[:2] + (CHOICE[2] + (((0, 2, 0), (0, 0, 0), None), ((0, 0, 2), (0, 0, 0), None)),)
        self.assertEqual(self.check(twice, loop, (0, 1, 1)), [True] * 4)
        self.assertEqual(self.check(twice, loop, (0, 0, 0)), [False] * 4)

    def test_what_is_above_its_room_within_a_beat_is_no_choice(self):
        self.assertEqual(self.check(CHOICE, (1, ((0, 0, (1, 1, 0), ()), (0, 0, (1, 0, 1), ()))), (0, 0, 0)), [True] * 4)

    def test_places_without_arrows(self):
        self.assertEqual(self.check(BARE, (1, ()), (0,)), [True] * 4)
        self.assertEqual(self.check(BARE, (2, ((0, 1, (1,), ()),)), (0,)), [False] * 4)
        self.assertEqual(self.check(BARE, (2, ((0, 1, (1,), ()),)), (1,)), [True] * 4)
        # A run may end soon, or come to a choice.
        either = (4, ((0, 1, (1, 1, 1), ()), (1, 3, (0, 1, 0), ()), (1, 2, (0, 0, 0), ()), (2, 3, (0, 0, 1), ())))
        self.assertEqual(self.check(CHOICE, either, (0, 1, 1)), [False, True, True, True])

    def test_places_that_are_not_come_to(self):
        sender = (3, ((0, 0, (0,), ()), (1, 1, (1,), ()), (2, 0, (5,), ())))
        self.assertEqual(self.check(BARE, sender, (0,)), [True] * 4)

    def test_many(self):
        rng = seeded(3401)
        seen = {}
        for turn in range(80):
            works, sender, rooms = choice_case(rng) if turn % 4 else random_case(rng)
            if len(slow.positions(sender, rooms)) * sum(len(slow.views(sender, place, 3)) for place in range(sender[0])) < 2500:
                told = self.check(works, sender, rooms)
                least = told.index(True) if True in told else None
                seen[least] = seen.get(least, 0) + 1
        self.assertEqual(set(seen), {0, 1, 2, 3, None})

    def test_too_many(self):
        loops = tuple((0, 0, (0,), ()) for _ in range(10))
        for many, room, fits in ((0, 2999, True), (1, 1999, True), (1, 2000, False), (2, 199, True), (2, 200, False), (3, 19, True),
                                 (3, 20, False)):
            told = asked(self, keeps_ahead, BARE, (1, loops), (room,), many)
            self.assertEqual(told, True if fits else (TooMany, {"most": 20000}), (many, room))
        # All places count, come to or not; at one without arrows there is one tuple.
        apart = (3, tuple((1, 1, (0,), ()) for _ in range(10)))
        self.assertIs(keeps_ahead(BARE, apart, (195,), 2), True)
        self.assertEqual(asked(self, keeps_ahead, BARE, apart, (196,), 2), (TooMany, {"most": 20000}))
        # Fewer up to a place without arrows.
        short = (2, tuple((0, 1, (0,), ()) for _ in range(24)))
        self.assertIs(keeps_ahead(BARE, short, (799,), 3), True)
        self.assertEqual(asked(self, keeps_ahead, BARE, short, (800,), 3), (TooMany, {"most": 20000}))

    def test_what_the_least_number_raises(self):
        loops = tuple((0, 0, (0,), ()) for _ in range(10))
        # It is 0, so that what 3 would raise is not raised.
        self.assertEqual(asked(self, least_ahead, BARE, (1, loops), (2999,)), 0)
        grows = loops[:9] + ((0, 0, (1,), ()),)
        self.assertEqual(asked(self, keeps_ahead, BARE, (1, grows), (19,), 3), False)
        self.assertIsNone(asked(self, least_ahead, BARE, (1, grows), (19,)))
        for room in (20, 300, 2500):
            self.assertEqual(asked(self, least_ahead, BARE, (1, grows), (room,)), (TooMany, {"most": 20000}))
        # Here 1 does, and 2 is too many.
        places, arrows = LATER
        wide = (places + 1, arrows + tuple((3, 3, (0, 0, 0), ()) for _ in range(21)))
        self.assertEqual(asked(self, least_ahead, CHOICE, wide, (0, 3, 11)), asked(self, least_ahead, CHOICE, LATER, (0, 3, 11)))
        self.assertEqual(asked(self, keeps_ahead, CHOICE, wide, (0, 3, 11), 2), (TooMany, {"most": 20000}))

    def test_up_to_the_bounds(self):
        sender, rooms = great_sender(seeded(199)), (4, 1, 1, 4, 2)
        for many in range(4):
            told = asked(self, keeps_ahead, GREAT, sender, rooms, many)
            self.assertIn(told, (True, (TooMany, {"most": 20000})))
        self.assertEqual(least_ahead(GREAT, sender, rooms), 0)
        loops = tuple((0, 0, (at % 3,), (at % 4,)) for at in range(24))
        self.assertIs(keeps_ahead(ONE, (1, loops), (0,), 3), False)
        self.assertIs(keeps_ahead(ONE, (1, tuple((0, 0, (at % 3,), (3,)) for at in range(24))), (0,), 3), True)


if __name__ == "__main__":
    unittest.main()
