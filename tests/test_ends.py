"""[19]: what deeds can leave of heaps."""

import copy
import unittest

from neverheaps.ends import ends_of, low_ends
from neverheaps.errors import TooMany
from neverheaps.play import after
from tests.samples import BARE, FULL, WORKS, random_works, seeded

TAKEN = (("a",), (), (((1,), (0,), None),))
TURNED = (("a", "b"), (), (((1, 0), (0, 1), None),))
LED = (("a",), ("h",), (((1,), (0,), "h"), ((1,), (0,), None)))


def slow_ends(works, heaps, crew):
    """All ends with the shortest deeds, of these the least, by all deeds of each length."""
    found, level = {}, {(): (heaps, crew)}
    while level:
        for deeds in sorted(level):
            found.setdefault(level[deeds][0], deeds)
        following = {}
        for deeds, (lying, rest) in level.items():
            for index, (takes, puts, hand) in enumerate(works[2]):
                left = [many - (name == hand) for many, name in zip(rest, works[1])]
                if all(has >= need for has, need in zip(lying, takes)) and min(left + [0]) >= 0:
                    lies = tuple(has - need + more for has, need, more in zip(lying, takes, puts))
                    following[deeds + (index,)] = (lies, tuple(left))
        level = following
        if len(level) > 3000:
            return None
    return found


def is_in(one, other):
    return all(a <= b for a, b in zip(one, other))


class EndsTest(unittest.TestCase):

    def too_many(self, *given):
        for function in (ends_of, low_ends):
            with self.assertRaises(TooMany) as caught:
                function(*given)
            self.assertEqual(caught.exception.most, 5000)

    def test_the_example(self):
        self.assertEqual(ends_of(WORKS, (2, 0, 1), (1,)), {(0, 0, 0): (0, 1), (0, 1, 1): (0,), (2, 0, 1): ()})
        self.assertEqual(low_ends(WORKS, (2, 0, 1), (1,)), [(0, 0, 0)])
        self.assertEqual(low_ends(WORKS, (2, 0, 0), (1,)), [(0, 1, 0), (2, 0, 0)])

    def test_nothing_can_be_done(self):
        for works, heaps, crew in ((BARE, (3,), ()), (WORKS, (2, 0, 1), (0,)), (WORKS, (0, 0, 0), (9,))):
            self.assertEqual(ends_of(works, heaps, crew), {heaps: ()})
            self.assertEqual(low_ends(works, heaps, crew), [heaps])

    def test_shorter_deeds_go_ahead_of_lesser_ones(self):
        works = (("a",), (), (((1,), (0,), None), ((2,), (0,), None)))
        self.assertEqual(ends_of(works, (2,), ()), {(0,): (1,), (1,): (0,), (2,): ()})
        self.assertEqual(ends_of(works, (3,), ()), {(0,): (0, 1), (1,): (1,), (2,): (0,), (3,): ()})

    def test_an_end_comes_once_for_all_rests_of_the_crew(self):
        self.assertEqual(ends_of(LED, (2,), (1,)), {(0,): (0, 1), (1,): (0,), (2,): ()})
        turned = (LED[0], LED[1], LED[2][::-1])
        self.assertEqual(ends_of(turned, (2,), (1,)), {(0,): (0, 0), (1,): (0,), (2,): ()})

    def test_ends_of_many_works(self):
        rng, seen = seeded(22), 0
        for _ in range(300):
            works = random_works(rng, kinds=rng.randint(1, 3), recipes=rng.randint(0, 4), most=2)
            heaps = tuple(rng.randint(0, 3) for _ in works[0])
            crew = tuple(rng.randint(0, 2) for _ in works[1])
            told = slow_ends(works, heaps, crew)
            if told is None:
                continue
            seen += 1
            before = copy.deepcopy((works, heaps, crew))
            found = ends_of(works, heaps, crew)
            self.assertEqual(list(found.items()), sorted(told.items()))
            low = [end for end in told if not any(other != end and is_in(other, end) for other in told)]
            self.assertEqual(low_ends(works, heaps, crew), sorted(low))
            self.assertEqual((works, heaps, crew), before)
            for end, deeds in found.items():
                self.assertEqual(after(works, heaps, crew, deeds), end)
        self.assertGreater(seen, 200)

    def test_five_thousand_couples_and_one_more(self):
        found = ends_of(TAKEN, (4999,), ())
        self.assertEqual((len(found), list(found)[0], found[(0,)]), (5000, (0,), (0,) * 4999))
        self.assertEqual(list(found), sorted(found))
        self.assertEqual(low_ends(TAKEN, (4999,), ()), [(0,)])
        self.too_many(TAKEN, (5000,), ())
        self.too_many(TAKEN, (10 ** 9,), ())

    def test_five_thousand_ends_that_are_all_low(self):
        self.assertEqual(low_ends(TURNED, (4999, 0), ()), [(many, 4999 - many) for many in range(5000)])
        self.too_many(TURNED, (5000, 0), ())

    def test_couples_are_counted_with_the_rests_of_the_crew(self):
        # With 4 hands and n things: n + 1 ends with all hands, one less for each hand that is gone.
        self.assertEqual(len(ends_of(LED, (1001,), (4,))), 1002)
        self.assertEqual(low_ends(LED, (1001,), (4,)), [(0,)])
        self.too_many(LED, (1002,), (4,))
        # 2,501 with the hand and 2,500 without it.
        self.too_many(LED, (2500,), (1,))
        self.assertEqual(len(ends_of(LED, (2499,), (1,))), 2500)

    def test_great_heaps(self):
        works = (("a", "b"), ("h",), (((1, 0), (0, 3), "h"), ((0, 4), (0, 0), "h")))
        found = ends_of(works, (10 ** 9, 10 ** 9), (2,))
        self.assertEqual(sorted(found), list(found))
        self.assertEqual(len(found), 6)
        low = low_ends(works, (10 ** 9, 10 ** 9), (2,))
        self.assertEqual(low, [(10 ** 9 - 2, 10 ** 9 + 6), (10 ** 9 - 1, 10 ** 9 - 1), (10 ** 9, 10 ** 9 - 8)])

    def test_what_is_returned_is_new(self):
        found = ends_of(FULL, (2, 0, 0, 0, 0), (1, 0, 0))
        found.clear()
        low_ends(FULL, (2, 0, 0, 0, 0), (1, 0, 0)).clear()
        self.assertEqual(ends_of(FULL, (2, 0, 0, 0, 0), (1, 0, 0))[(0, 1, 3, 0, 0)], (0,))
        low = [(0, 1, 1, 1, 1), (0, 1, 3, 0, 0), (2, 0, 0, 0, 0)]
        self.assertEqual(low_ends(FULL, (2, 0, 0, 0, 0), (1, 0, 0)), low)


if __name__ == "__main__":
    unittest.main()
