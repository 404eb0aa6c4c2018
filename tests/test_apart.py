"""[46]: works that are apart, and what is done at once."""

import itertools
import unittest

from neverheaps.apart import at_once, at_once_play, is_apart, least_heaps, lots_of, touching_recipes
from neverheaps.errors import NotApart, TooMany
from neverheaps.forms import is_play
from neverheaps.play import after, is_within, no_heaps, played
from tests.samples import BARE, FULL, SENDER, WORKS, asked, random_run, random_sender, random_works, seeded

APART = (("a", "b"), ("h", "k"), (((2, 0), (0, 0), "h"), ((0, 1), (0, 0), None), ((2, 0), (0, 0), "k")))
TOUCHING = (("a", "b"), (), (((1, 0), (0, 0), None), ((1, 1), (0, 0), None)))
HANDS = (("a", "b"), ("h",), (((1, 0), (0, 0), "h"), ((0, 1), (0, 0), "h")))


def without_puts(works):
    return works[0], works[1], tuple((takes, (0,) * len(puts), hand) for takes, puts, hand in works[2])


def random_apart(rng):
    """A works that is apart: kinds and hands are dealt out to lots."""
    kinds, hands = rng.randint(1, 5), ("h", "j", "k")[:rng.randint(0, 3)]
    owner = [rng.randrange(3) for _ in range(kinds)]
    lots = {lot: tuple(rng.randint(1, 3) if own == lot else 0 for own in owner) for lot in set(owner)}
    dealt = {lot: [hand for hand in hands if rng.random() < 0.5] for lot in lots}
    for hand in hands:
        keeper = rng.choice(sorted(lots))
        dealt = {lot: [other for other in names if other != hand] + [hand] * (lot == keeper) for lot, names in dealt.items()}
    recipes = []
    for _ in range(rng.randint(0, 6)):
        lot = rng.choice(sorted(lots))
        recipes.append((lots[lot], (0,) * kinds, rng.choice(dealt[lot] + [None] * rng.randint(0 if dealt[lot] else 1, 1))))
    return ("a", "b", "c", "d", "e")[:kinds], hands, tuple(recipes)


def slow_touching(works):
    found = []
    for (at, one), (further, other) in itertools.combinations(enumerate(works[2]), 2):
        kinds = any(left and right for left, right in zip(one[0], other[0]))
        if one[0] != other[0] and (kinds or one[2] == other[2] and one[2] in works[1]):
            found.append((at, further))
    return min(found, default=None)


def slow_at_once(works, heaps, crew):
    """The deeds by each recipe in turn, as often as it can be done behind those ahead of it."""
    lying, rest, deeds = list(heaps), dict(zip(works[1], crew)), []
    for index, (takes, _, hand) in enumerate(works[2]):
        while all(have >= need for have, need in zip(lying, takes)) and (hand is None or rest[hand] > 0):
            lying = [have - need for have, need in zip(lying, takes)]
            deeds.append(index)
            if hand is not None:
                rest[hand] -= 1
    return tuple(deeds)


class ApartTest(unittest.TestCase):

    def check(self, works):
        """Whether a works is apart; its lots, or the error."""
        apart, touching = asked(self, is_apart, works), asked(self, touching_recipes, works)
        self.assertEqual(touching, slow_touching(works))
        putting = [index for index, (_, puts, _) in enumerate(works[2]) if any(puts)]
        self.assertIs(apart, not putting and touching is None)
        lots = asked(self, lots_of, works)
        if apart:
            takes = sorted(set(recipe[0] for recipe in works[2]))
            told = [(row, tuple(index for index, recipe in enumerate(works[2]) if recipe[0] == row)) for row in takes]
            self.assertEqual(lots, told)
        else:
            error = (NotApart, {"index": putting[0] if putting else touching[0]})
            heaps, crew = (10 ** 9,) * len(works[0]), (9,) * len(works[1])
            self.assertEqual(lots, error)
            self.assertEqual(asked(self, at_once, works, heaps, crew), error)
            sender = (1, ((0, 0, heaps, crew),))
            for run in ((), (0, 0)):
                self.assertEqual([asked(self, function, works, sender, run) for function in (at_once_play, least_heaps)], [error] * 2)
        return apart

    def test_the_example(self):
        self.assertEqual([is_apart(TOUCHING), touching_recipes(TOUCHING)], [False, (0, 1)])
        self.assertEqual([lots_of(APART), at_once(APART, (5, 2), (1, 2))], [[((0, 1), (1,)), ((2, 0), (0, 2))], (0, 1, 1, 2)])

    def test_apart_and_not(self):
        for works, apart in ((APART, True), (TOUCHING, False), (HANDS, False), (BARE, True), (FULL, False), (WORKS, False), (without_puts(WORKS), True)):
            self.assertIs(self.check(works), apart)
        # By a hand alone; what a recipe puts; the least of several; unlike takes of one kind.
        self.assertEqual([touching_recipes(HANDS), touching_recipes(WORKS), touching_recipes(BARE)], [(0, 1), None, None])
        same = (("a",), ("h",), (((2,), (0,), "h"), ((2,), (0,), None), ((2,), (0,), "h")))
        self.assertIs(self.check(same), True)
        self.assertIs(self.check((same[0], same[1], same[2] + (((1,), (0,), None),))), False)
        self.assertEqual(touching_recipes((same[0], same[1], same[2] + (((1,), (0,), None),))), (0, 3))
        # Recipes without a hand want no hand in common.
        self.assertIs(self.check((("a", "b"), ("h",), (((1, 0), (0, 0), None), ((0, 1), (0, 0), None)))), True)

    def test_what_puts_is_told_ahead_of_what_touches(self):
        works = (("a", "b", "c"), (), (((1, 0, 0), (0, 0, 0), None), ((1, 1, 0), (0, 0, 0), None), ((0, 1, 0), (0, 0, 1), None)))
        self.assertEqual([touching_recipes(works), asked(self, lots_of, works)], [(0, 1), (NotApart, {"index": 2})])
        self.check(works)

    def test_many(self):
        rng = seeded(4601)
        seen = {True: 0, False: 0}
        for _ in range(300):
            works = random_works(rng, hands=rng.randint(0, 3), recipes=rng.randint(0, 4), most=rng.choice((1, 2)))
            seen[self.check(rng.choice((works, without_puts(works), random_apart(rng))))] += 1
        self.assertGreater(min(seen.values()), 60)


class AtOnceTest(unittest.TestCase):

    def check(self, works, heaps, crew):
        deeds = asked(self, at_once, works, heaps, crew)
        self.assertEqual(deeds, slow_at_once(works, heaps, crew))
        self.assertEqual(deeds, tuple(sorted(deeds)))
        return after(works, heaps, crew, deeds)

    def test_small_ones(self):
        self.assertEqual(self.check(APART, (5, 2), (1, 2)), (1, 0))
        self.assertEqual(self.check(APART, (9, 0), (1, 1)), (5, 0))
        self.assertEqual(self.check(BARE, (7,), ()), (7,))
        # Of a lot each one, in order: the hands of the second one are left for what is left.
        lot = (("a",), ("h", "k"), (((1,), (0,), "k"), ((1,), (0,), "h"), ((1,), (0,), "k"), ((1,), (0,), None)))
        self.assertEqual(at_once(lot, (9,), (2, 3)), (0, 0, 0, 1, 1, 3, 3, 3, 3))
        self.assertEqual(at_once(lot, (4,), (9, 3)), (0, 0, 0, 1))
        self.assertEqual(at_once(lot, (0,), (9, 9)), ())

    def test_many(self):
        rng = seeded(4602)
        for _ in range(300):
            works = random_apart(rng)
            self.assertIs(is_apart(works), True)
            self.check(works, tuple(rng.randint(0, 20) for _ in works[0]), tuple(rng.randint(0, 9) for _ in works[1]))

    def test_too_many(self):
        free = (("a", "b"), ("h",), (((1, 0), (0, 0), None), ((0, 2), (0, 0), "h")))
        over = (TooMany, {"most": 1000})
        self.assertEqual(at_once(free, (1000, 0), (9,)), (0,) * 1000)
        self.assertEqual(asked(self, at_once, free, (1001, 0), (9,)), over)
        self.assertEqual(len(at_once(free, (991, 19), (9,))), 1000)
        self.assertEqual(asked(self, at_once, free, (992, 19), (9,)), over)
        self.assertEqual(asked(self, at_once, free, (10 ** 9, 10 ** 9), (0,)), over)
        self.assertEqual(at_once(free, (0, 10 ** 9), (9,)), (1,) * 9)
        sender = (1, ((0, 0, (10, 0), (0,)), (0, 0, (1001, 0), (0,))))
        for function in (at_once_play, least_heaps):
            self.assertEqual(asked(self, function, free, sender, (0, 0, 1, 0)), over)
        self.assertEqual(at_once_play(free, sender, (0, 0)), [(0,) * 10] * 2)
        # A works that is not apart is told ahead.
        self.assertEqual(asked(self, at_once, TOUCHING, (10 ** 9, 0), ()), (NotApart, {"index": 0}))


class PlayTest(unittest.TestCase):

    def check(self, works, sender, run):
        play, heaps = asked(self, at_once_play, works, sender, run), asked(self, least_heaps, works, sender, run)
        self.assertIs(is_play(works, sender, run, play), True)
        told = no_heaps(works)
        for index, deeds in zip(run, play):
            lying = tuple(map(sum, zip(told, sender[1][index][2])))
            self.assertEqual(deeds, slow_at_once(works, lying, sender[1][index][3]))
            told = after(works, lying, sender[1][index][3], deeds)
        self.assertEqual(heaps, told)
        return play

    def test_small_ones(self):
        sender = (2, ((0, 1, (3, 1), (1, 0)), (1, 0, (2, 0), (0, 1))))
        self.assertEqual(self.check(APART, sender, (0, 1, 0)), [(0, 1), (2,), (0, 1)])
        self.assertEqual([self.check(APART, sender, ()), least_heaps(APART, sender, (0, 1, 0))], [[], (2, 0)])
        self.assertEqual(self.check(BARE, (1, ((0, 0, (2,), ()),)), (0, 0)), [(), ()])

    def test_no_other_play_has_less(self):
        rng = seeded(4603)
        for _ in range(150):
            works = random_apart(rng)
            sender = random_sender(rng, works, 3, 6)
            run = random_run(rng, sender)
            least = played(works, sender, run, self.check(works, sender, run))
            for _ in range(8):
                heaps = no_heaps(works)
                for at, index in enumerate(run):
                    lying = tuple(map(sum, zip(heaps, sender[1][index][2])))
                    deeds = list(slow_at_once(works, lying, sender[1][index][3]))
                    rng.shuffle(deeds)
                    heaps = after(works, lying, sender[1][index][3], tuple(deeds[:rng.randint(0, len(deeds))]))
                    self.assertTrue(is_within(least[at], heaps))

    def test_up_to_the_bounds(self):
        works = without_puts((FULL[0], FULL[1], ((((1, 0, 0, 0, 0)), (0,) * 5, "h"), ((0, 2, 1, 0, 0), (0,) * 5, "j"), ((0, 0, 0, 1, 4), (0,) * 5, None)) * 2))
        sender = (1, ((0, 0, (9,) * 5, (9,) * 3), (0, 0, (9, 0, 9, 0, 9), (1, 0, 1))))
        self.check(works, sender, (0, 1) * 200)
        self.assertEqual(self.check(without_puts(WORKS), SENDER, (0, 1) * 200)[:2], [(0,), ()])


if __name__ == "__main__":
    unittest.main()
