"""[44]: senders that keep promises, and the most that senders break or bring."""

import itertools
import math
import unittest

from neverheaps.errors import NoName, TooMany
from neverheaps.forms import is_sender
from neverheaps.parts import breaker_of, bringer_of, is_breaker, is_bringer
from neverheaps.promises import at_most_broken, at_most_come, most_broken, most_come
from neverheaps.side import greatest_rate, holds_apart, least_share
from tests.samples import BARE, FULL, WORKS, any_values, asked, random_works, seeded
from tests.slow import runs, steps
from tests.test_held import weak_sender

HAND = (("a",), ("h",), (((1,), (0,), "h"),))
TWO = (("a", "b"), ("h", "k"), (((1, 0), (0, 1), "h"),))


def slow_broken(works, name, broken, window):
    """The breaker, from all histories."""
    places = [row for row in itertools.product((0, 1), repeat=window - 1) if sum(row) <= broken]
    zeros, arrows = (0,) * len(works[0]), []
    for place, row in enumerate(places):
        for lacks in (0, 1):
            if sum(row) + lacks <= broken:
                crew = tuple(int(hand == name and not lacks) for hand in works[1])
                arrows.append((place, places.index((row + (lacks,))[1:]), zeros, crew))
    return len(places), tuple(arrows)


def slow_come(works, name, many, window):
    """The bringer, from all histories."""
    places = [row for row in itertools.product(range(many + 1), repeat=window - 1) if sum(row) <= many]
    arrows = []
    for place, row in enumerate(places):
        for come in range(many - sum(row) + 1):
            amounts = tuple(come if kind == name else 0 for kind in works[0])
            arrows.append((place, places.index((row + (come,))[1:]), amounts, (0,) * len(works[1])))
    return len(places), tuple(arrows)


def slow_most(sender, window, weight):
    """The greatest sum of a weight over at most window arrows on end, of all runs up to a length."""
    most = 0
    for run in runs(sender, window + sender[0]):
        for at in range(len(run)):
            most = max(most, sum(weight(sender[1][index]) for index in run[at:at + window]))
    return most


class PromisesTest(unittest.TestCase):

    def test_the_example(self):
        self.assertEqual(at_most_broken(HAND, "h", 1, 2), (2, ((0, 0, (0,), (1,)), (0, 1, (0,), (0,)), (1, 0, (0,), (1,)))))
        self.assertEqual(at_most_come(HAND, "a", 1, 2)[1][1], (0, 1, (1,), (0,)))

    def test_all_breakers(self):
        for works, name in ((HAND, "h"), (TWO, "k"), (WORKS, "h"), (FULL, "j")):
            for window in range(1, 9):
                for broken in range(window + 1):
                    breaker = asked(self, at_most_broken, works, name, broken, window)
                    self.assertEqual(breaker, slow_broken(works, name, broken, window))
                    self.assertTrue(is_breaker(breaker) and is_sender(works, breaker))
        self.assertEqual(at_most_broken(HAND, "h", 0, 1), (1, ((0, 0, (0,), (1,)),)))
        self.assertEqual(at_most_broken(HAND, "h", 1, 1), (1, ((0, 0, (0,), (1,)), (0, 0, (0,), (0,)))))
        self.assertEqual(at_most_broken(HAND, "h", 8, 8)[0], 128)

    def test_all_bringers(self):
        told = 0
        for works, name in ((HAND, "a"), (TWO, "b"), (WORKS, "c"), (FULL, "d"), (BARE, "a")):
            for window in range(1, 9):
                for many in range(10):
                    count = math.comb(window - 1 + many, many)
                    bringer = asked(self, at_most_come, works, name, many, window)
                    if count > 200:
                        self.assertEqual(bringer, (TooMany, {"most": 200}))
                    else:
                        told += 1
                        self.assertEqual(bringer, slow_come(works, name, many, window))
                        self.assertEqual(bringer[0], count)
                        self.assertTrue(is_bringer(bringer) and is_sender(works, bringer))
        self.assertGreater(told, 80)
        self.assertEqual(at_most_come(HAND, "a", 2, 1), (1, ((0, 0, (0,), (0,)), (0, 0, (1,), (0,)), (0, 0, (2,), (0,)))))
        self.assertEqual(at_most_come(HAND, "a", 0, 8), (1, ((0, 0, (0,), (0,)),)))

    def test_just_above_two_hundred(self):
        # 165 and 210 histories.
        self.assertEqual([math.comb(11, 3), math.comb(10, 4)], [165, 210])
        self.assertEqual(at_most_come(HAND, "a", 8, 4)[0], 165)
        self.assertEqual(asked(self, at_most_come, HAND, "a", 4, 7), (TooMany, {"most": 200}))
        self.assertEqual(asked(self, at_most_come, HAND, "a", 6, 5), (TooMany, {"most": 200}))

    def test_shares_and_rates(self):
        for window in range(1, 7):
            for broken in range(window + 1):
                (num, den), _ = least_share(HAND, at_most_broken(HAND, "h", broken, window), "h")
                self.assertEqual(num * window, den * (window - broken))
        for window in range(1, 5):
            for many in range(6):
                (num, den), _ = greatest_rate(HAND, at_most_come(HAND, "a", many, window), "a")
                self.assertEqual(num * window, den * many)

    def test_promises_side_by_side(self):
        # A works that is worked by one hand holds them exactly if no more comes than hands do.
        for window in range(1, 5):
            for many in range(4):
                for broken in range(4):
                    told = holds_apart(HAND, at_most_come(HAND, "a", many, window), (at_most_broken(HAND, "h", broken, 3),))
                    self.assertIs(told, many * 3 <= (3 - broken) * window)

    def test_no_name(self):
        for name in ["b", "", "H", ("h",), ["h"], {}, 0, True, None] + any_values():
            for window in (1, 8):
                for function in (at_most_broken, at_most_come):
                    # Ahead of too many histories.
                    if name not in ("a", "h"):
                        with self.assertRaises(NoName) as caught:
                            function(HAND, name, 1 if function is at_most_broken else 9, window)
                        self.assertIs(caught.exception.name, name)
                for function in (most_broken, most_come):
                    if name not in ("a", "h"):
                        with self.assertRaises(NoName) as caught:
                            function(HAND, (1, ()), name, window)
                        self.assertIs(caught.exception.name, name)
        for function, arguments in ((at_most_broken, ("a", 1, 2)), (at_most_come, ("h", 9, 8))):
            with self.assertRaises(NoName):
                function(HAND, *arguments)
        for function, name in ((most_broken, "a"), (most_come, "h")):
            with self.assertRaises(NoName):
                function(HAND, (1, ()), name, 2)


class MostTest(unittest.TestCase):

    def check(self, works, sender, window):
        for place, name in enumerate(works[1]):
            told = asked(self, most_broken, works, breaker_of(sender), name, window)
            self.assertEqual(told, slow_most(sender, window, lambda arrow: int(arrow[3][place] == 0)))
        for place, name in enumerate(works[0]):
            told = asked(self, most_come, works, bringer_of(sender), name, window)
            self.assertEqual(told, slow_most(sender, window, lambda arrow: arrow[2][place]))

    def test_of_promises(self):
        for window in range(1, 7):
            for kept in range(window + 1):
                breaker = at_most_broken(HAND, "h", kept, window)
                self.assertEqual([most_broken(HAND, breaker, "h", size) for size in range(1, window + 1)],
                                 [min(kept, size) for size in range(1, window + 1)])
        self.assertEqual(most_broken(HAND, at_most_broken(HAND, "h", 1, 2), "h", 3), 2)
        self.assertEqual([most_come(HAND, at_most_come(HAND, "a", 5, 3), "a", size) for size in (1, 2, 3, 4, 6, 8)], [5, 5, 5, 10, 10, 15])

    def test_windows_longer_than_runs(self):
        sender = (4, ((0, 1, (2,), (0,)), (1, 2, (3,), (1,)), (3, 3, (9,), (0,))))
        for window in range(1, 9):
            self.check(HAND, sender, window)
        self.assertEqual([most_come(HAND, sender, "a", window) for window in (1, 2, 8)], [3, 5, 5])
        self.assertEqual([most_broken(HAND, sender, "h", window) for window in (1, 2, 8)], [1, 1, 1])
        self.assertEqual([most_broken(HAND, (1, ()), "h", 8), most_come(HAND, (1, ()), "a", 8)], [0, 0])

    def test_of_any_runs(self):
        # What lacks need not lie at the first beats, and many hands are none that lack.
        sender = (2, ((0, 1, (0,), (2,)), (1, 1, (0,), (0,)), (1, 0, (0,), (9,))))
        self.assertEqual([most_broken(HAND, sender, "h", window) for window in (1, 4, 8)], [1, 4, 8])
        rng = seeded(4401)
        for _ in range(60):
            works = random_works(rng, kinds=rng.randint(1, 2))
            sender = weak_sender(rng, works, rng.randint(1, 3), rng.randint(0, 4))
            if max([len(steps(sender, place)) for place in range(sender[0])]) <= 2:
                self.check(works, sender, rng.randint(1, 6))

    def test_up_to_the_bounds(self):
        rng = seeded(4402)
        sender = weak_sender(rng, FULL, 10, 24)
        for window in (1, 8):
            for name in FULL[1]:
                self.assertLessEqual(most_broken(FULL, sender, name, window), window)
            for name in FULL[0]:
                self.assertLessEqual(most_come(FULL, sender, name, window), 9 * window)
        self.assertEqual(most_broken(WORKS, (1, ((0, 0, (0, 0, 0), (1,)),)), "h", 8), 0)


if __name__ == "__main__":
    unittest.main()
