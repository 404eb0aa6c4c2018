"""[25], and [5] and [6] as far as they speak of it: whether a works holds a sender, and why."""

import unittest

from neverheaps.errors import TooMany
from neverheaps.forms import is_ring
from neverheaps.heights import are_heights
from neverheaps.held import holds, is_why, is_why_not, why, why_not
from neverheaps.rings import gain_of, rings_of, sum_of
from neverheaps.tariffs import book_of, is_book, is_fair
from neverheaps.ways import can_work_off
from tests.samples import BARE, FULL, RINGS, SENDER, WORKS, any_values, asked, circle, otherwise, random_works, seeded

ONE = (("a",), ("h",), (((1,), (0,), "h"),))
TURN = (2, ((0, 1, (1,), (0,)), (1, 0, (0,), (1,)), (1, 1, (2,), (1,))))
EVEN = (2, TURN[1][:2])
# A works of which a book may hold lines: a thing that never goes out but as another one, both ways about in worth.
LINES = (("a", "b"), (), (((1, 0), (0, 1), None), ((0, 1), (0, 0), None), ((1, 1), (0, 0), None)))


def weak_sender(rng, works, places, arrows):
    """A sender that brings little, with crews of which some are great: it is often held."""
    made = []
    for _ in range(arrows):
        amounts = tuple(rng.choice((0, 0, 0, rng.randint(0, 2))) for _ in works[0])
        crew = tuple(rng.choice((0, rng.randint(0, 3), 9)) for _ in works[1])
        made.append((rng.randrange(places), rng.randrange(places), amounts, crew))
    return places, tuple(made)


class HeldTest(unittest.TestCase):

    def check(self, works, sender):
        """Whether it is held; told and judged alike by all functions."""
        held = asked(self, holds, works, sender)
        reason, against = asked(self, why, works, sender), asked(self, why_not, works, sender)
        self.assertEqual([held, reason is None, against is None], [held, not held, held])
        if held:
            self.assertTrue(is_book(works, [tariff for tariff, _ in reason]))
            self.assertTrue(all(are_heights(sender, tariff, (0, 1), heights) for tariff, heights in reason))
            self.assertIs(is_why(works, sender, reason), True)
        else:
            ring, tariff = against
            self.assertTrue(is_ring(sender, ring) and is_fair(works, tariff) and gain_of(sender, tariff, ring) > 0)
            self.assertIs(is_why_not(works, sender, against), True)
        return held

    def test_the_example(self):
        self.assertIs(self.check(ONE, TURN), False)
        self.assertIs(is_why_not(ONE, TURN, ((2,), ((1,), (1,)))), True)
        self.assertIs(self.check(ONE, EVEN), True)

    def test_without_rings_all_is_held(self):
        for works in (ONE, FULL, BARE, LINES):
            amounts, crew = (9,) * len(works[0]), (0,) * len(works[1])
            self.assertIs(self.check(works, (1, ())), True)
            self.assertIs(self.check(works, (3, ((0, 1, amounts, crew), (1, 2, amounts, crew), (0, 2, amounts, crew)))), True)

    def test_rings_that_are_not_come_to_do_not_count(self):
        for works in (ONE, FULL):
            amounts, crew = (9,) + (0,) * (len(works[0]) - 1), (0,) * len(works[1])
            away = (3, ((1, 2, amounts, crew), (2, 1, amounts, crew), (2, 0, amounts, crew)))
            self.assertIs(self.check(works, away), True)
            self.assertIs(self.check(works, (3, away[1] + ((0, 2, amounts, crew),))), False)

    def test_without_recipes_and_hands(self):
        self.assertIs(self.check(BARE, (1, ((0, 0, (0,), ()),))), True)
        self.assertIs(self.check(BARE, (1, ((0, 0, (1,), ()),))), False)
        self.assertIs(self.check(LINES, (1, ((0, 0, (9, 9), ()),))), True)
        hands = (("a",), ("h",), ())
        self.assertIs(self.check(hands, (1, ((0, 0, (0,), (1,)),))), True)
        self.assertIs(self.check(hands, (1, ((0, 0, (1,), (9,)),))), False)

    def test_just_enough(self):
        for many in range(4):
            sender = (2, ((0, 1, (3,), (many,)), (1, 0, (0,), (1,))))
            self.assertIs(self.check(ONE, sender), many >= 2)
        two = (("a",), ("h",), (((2,), (0,), "h"),))
        self.assertIs(self.check(two, (3, ((0, 1, (1,), (0,)), (1, 2, (1,), (0,)), (2, 0, (1,), (1,))))), False)
        self.assertIs(self.check(two, (3, ((0, 1, (1,), (0,)), (1, 2, (0,), (0,)), (2, 0, (1,), (1,))))), True)

    def test_it_is_so_exactly_if_the_crews_of_each_ring_work_off_what_it_brings(self):
        rng = seeded(2501)
        seen = {True: 0, False: 0}
        for turn in range(250):
            works = random_works(rng, most=rng.choice((1, 2, 4)))
            sender = weak_sender(rng, works, rng.randint(1, 5), rng.randint(0, 9))
            rings = rings_of(sender)
            worked = [can_work_off(works, *sum_of(works, sender, ring)) is not None for ring in rings]
            gains = [max(gain_of(sender, tariff, ring) for tariff in book_of(works)) for ring in rings]
            self.assertEqual(worked, [gain <= 0 for gain in gains], turn)
            self.assertIs(self.check(works, sender), all(worked), turn)
            seen[all(worked)] += bool(rings)
        self.assertGreater(min(seen.values()), 40)

    def test_more_rings_than_can_be_gone_through(self):
        full = circle((3,) * 8, ((9, 0, 0, 0, 0), (1, 1, 1)))
        with self.assertRaises(TooMany):
            rings_of(full)
        self.assertIs(self.check(FULL, full), False)
        held = circle((3,) * 8, ((1,), (1,)))
        self.assertIs(self.check(ONE, held), True)
        self.assertIs(self.check(ONE, (8, held[1][:-1] + ((7, 0, (2,), (1,)),))), False)
        rng = seeded(2502)
        for _ in range(10):
            self.check(FULL, weak_sender(rng, FULL, 10, 24))


class WhyNotTest(unittest.TestCase):

    def test_wrong_parts(self):
        good = ((2,), ((1,), (1,)))
        for thing in list(otherwise(good)) + any_values():
            self.assertIs(is_why_not(ONE, TURN, thing), False)
        # A ring that does not gain, none at all, and tariffs that are not fair or by which it does not gain.
        for thing in (((0, 1), ((1,), (1,))), ((0,), ((1,), (1,))), ((), ((1,), (1,))), ((2,), ((2,), (1,))),
                      ((2,), ((0,), (1,))), ((2,), ((1,), (2,))), ((2,), ((-1,), (0,))), ((1, 0), ((1,), (1,))), ((3,), ((1,), (1,))),
                      ((2,), ((1,), (1,)), None), ((2,),), ((2,), ((0,), (0,)))):
            self.assertIs(asked(self, is_why_not, ONE, TURN, thing), False)
        self.assertIs(is_why_not(ONE, TURN, ((2,), ((5,), (5,)))), True)
        self.assertIs(is_why_not(ONE, TURN, ((2,), ((2,), (3,)))), True)

    def test_a_sender_that_is_held_has_none(self):
        for ring in ((0, 1), (0,), ()):
            for tariff in (((1,), (1,)), ((-1,), (0,)), ((0,), (1,)), ((1,), (0,))):
                self.assertIs(is_why_not(ONE, EVEN, (ring, tariff)), False)


class WhyTest(unittest.TestCase):

    def test_books_in_another_order_and_with_more_tariffs(self):
        for works, sender in ((ONE, EVEN), (LINES, (1, ((0, 0, (1, 2), ()),))), (WORKS, (2, SENDER[1][:1]))):
            reason = why(works, sender)
            self.assertIs(is_why(works, sender, reason[::-1]), True)
            self.assertIs(is_why(works, sender, reason + reason), True)
            twice = [((tuple(2 * item for item in tariff[0]), tuple(2 * item for item in tariff[1])),
                      tuple(None if height is None else 2 * height for height in heights)) for tariff, heights in reason]
            self.assertIs(is_why(works, sender, twice), True)
            higher = [(tariff, tuple(None if height is None else height - 5 for height in heights)) for tariff, heights in reason]
            self.assertIs(is_why(works, sender, higher), True)

    def test_fewer_tariffs_are_no_book(self):
        for works, sender in ((ONE, EVEN), (FULL, (1, ())), (WORKS, (2, SENDER[1][:1]))):
            reason = why(works, sender)
            for at in range(len(reason)):
                self.assertIs(asked(self, is_why, works, sender, reason[:at] + reason[at + 1:]), False)
        self.assertIs(is_why(ONE, EVEN, []), False)

    def test_wrong_parts(self):
        sender = (4, RINGS[1][:1] + RINGS[1][4:])
        reason = why(WORKS, sender)
        self.assertIs(is_why(WORKS, sender, reason), True)
        for thing in list(otherwise(reason)) + any_values():
            self.assertIs(is_why(WORKS, sender, thing), False)
        for at, (tariff, heights) in enumerate(reason):
            for other in ((tariff, tuple(heights[:-1])), (tariff, heights, 0), (heights, tariff), [tariff, heights], (tariff,)):
                self.assertIs(is_why(WORKS, sender, reason[:at] + [other] + reason[at + 1:]), False)

    def test_heights_that_do_not_fit(self):
        reason = why(ONE, EVEN)
        self.assertIn(((1,), (1,)), [tariff for tariff, _ in reason])
        for heights, fits in (((0, 1), True), ((3, 4), True), ((0, 0), False), ((0, 2), False)):
            other = [(tariff, heights if tariff == ((1,), (1,)) else kept) for tariff, kept in reason]
            self.assertIs(is_why(ONE, EVEN, other), fits)

    def test_a_tariff_that_is_not_fair(self):
        reason = why(ONE, EVEN)
        self.assertIs(is_why(ONE, EVEN, reason + [(((0,), (1,)), (0, 0))]), True)
        self.assertIs(is_why(ONE, EVEN, reason + [(((2,), (1,)), (0, 9))]), False)
        self.assertIs(is_why((("a",), ("h",), ()), (1, ()), [(((1,), (0,)), (0,))]), False)

    def test_one_that_is_not_held_has_none(self):
        for tariffs in (book_of(ONE), book_of(ONE) * 2):
            for low in range(-3, 4):
                self.assertIs(is_why(ONE, TURN, [(tariff, (0, low)) for tariff in tariffs]), False)


if __name__ == "__main__":
    unittest.main()
