"""[18]: deeds and plays by an order."""

import copy
import itertools
import unittest

from neverheaps.errors import TooMany
from neverheaps.forms import is_play
from neverheaps.orders import deeds_by, is_order, order_play
from neverheaps.play import after, can_do
from tests.samples import BARE, FULL, SENDER, WORKS, any_values, otherwise, random_run, random_sender, random_works, seeded

COUNTED = (("a", "b"), ("h",), (((1, 0), (0, 0), None), ((0, 1), (0, 0), "h")))


def slow_deeds(works, order, heaps, crew):
    """The deeds by the order, word by word."""
    deeds = ()
    while True:
        can = [index for index in order if can_do(works, heaps, crew, deeds + (index,))]
        if not can:
            return deeds
        deeds += (can[0],)


class OrdersTest(unittest.TestCase):

    def too_many(self, function, *given):
        with self.assertRaises(TooMany) as caught:
            function(*given)
        self.assertEqual(caught.exception.most, 1000)

    def test_the_first_that_can_be_done_is_done(self):
        self.assertEqual(deeds_by(WORKS, (1, 0), (2, 0, 1), (1,)), (0, 1))
        self.assertEqual(deeds_by(WORKS, (0, 1), (4, 1, 2), (2,)), (0, 0, 1, 1))
        # What an earlier recipe of the order can do again, it does at once.
        self.assertEqual(deeds_by(WORKS, (1, 0), (4, 1, 3), (2,)), (1, 0, 1, 0, 1))
        self.assertEqual(deeds_by(WORKS, (0, 1), (2, 0, 0), (0,)), ())
        self.assertEqual(deeds_by(BARE, (), (5,), ()), ())

    def test_of_two_that_are_the_same_the_first_one_of_the_order(self):
        works = (("a",), ("h", "j"), (((1,), (0,), "h"), ((1,), (0,), "j")))
        self.assertEqual(deeds_by(works, (0, 1), (3,), (1, 2)), (0, 1, 1))
        self.assertEqual(deeds_by(works, (1, 0), (3,), (1, 2)), (1, 1, 0))
        self.assertEqual(deeds_by(works, (1, 0), (1,), (1, 2)), (1,))

    def test_deeds_of_many_works(self):
        rng = seeded(20)
        for _ in range(300):
            works = random_works(rng, recipes=rng.randint(0, 5), most=2)
            heaps = tuple(rng.randint(0, 8) for _ in works[0])
            crew = tuple(rng.randint(0, 4) for _ in works[1])
            order = tuple(rng.sample(range(len(works[2])), len(works[2])))
            before = copy.deepcopy((works, order, heaps, crew))
            self.assertEqual(deeds_by(works, order, heaps, crew), slow_deeds(works, order, heaps, crew))
            self.assertEqual((works, order, heaps, crew), before)

    def test_a_thousand_deeds_and_one_more(self):
        self.assertEqual(deeds_by(COUNTED, (0, 1), (1000, 0), (0,)), (0,) * 1000)
        self.too_many(deeds_by, COUNTED, (0, 1), (1001, 0), (0,))
        self.assertEqual(deeds_by(COUNTED, (0, 1), (990, 50), (10,)), (0,) * 990 + (1,) * 10)
        self.too_many(deeds_by, COUNTED, (0, 1), (990, 50), (11,))
        self.too_many(deeds_by, COUNTED, (1, 0), (10 ** 9, 10 ** 9), (10 ** 9,))

    def test_order_play(self):
        run = (0, 1, 0)
        play = order_play(WORKS, SENDER, (0, 1), run)
        self.assertEqual(play, [(0,), (1,), (0,)])
        play.append(())
        self.assertEqual(order_play(WORKS, SENDER, (0, 1), run), [(0,), (1,), (0,)])
        self.assertEqual(order_play(WORKS, SENDER, (1, 0), ()), [])
        self.assertEqual(order_play(BARE, (1, ((0, 0, (1,), ()),)), (), (0, 0)), [(), ()])

    def test_plays_of_many_works(self):
        rng = seeded(21)
        for _ in range(150):
            works = random_works(rng, most=2)
            sender = random_sender(rng, works)
            run = random_run(rng, sender, 20)
            order = tuple(rng.sample(range(len(works[2])), len(works[2])))
            before = copy.deepcopy((works, sender, order, run))
            play = order_play(works, sender, order, run)
            self.assertEqual((works, sender, order, run), before)
            self.assertTrue(is_play(works, sender, run, play))
            heaps = (0,) * len(works[0])
            for index, deeds in zip(run, play):
                heaps = tuple(a + b for a, b in zip(heaps, sender[1][index][2]))
                self.assertEqual(deeds, slow_deeds(works, order, heaps, sender[1][index][3]))
                heaps = after(works, heaps, sender[1][index][3], deeds)

    def test_a_play_with_too_many_deeds(self):
        works = (("a", "b"), (), (((1, 0), (0, 1000), None), ((0, 1), (0, 0), None)))
        sender = (1, ((0, 0, (0, 1), ()), (0, 0, (1, 0), ())))
        self.too_many(order_play, works, sender, (0, 1), (0, 0, 1))
        fewer = (works[0], (), (((1, 0), (0, 999), None), works[2][1]))
        self.assertEqual(len(order_play(fewer, sender, (0, 1), (1, 0))[0]), 1000)
        self.assertEqual(order_play(works, sender, (0, 1), (0,)), [(1,)])

    def test_is_order(self):
        for order in itertools.permutations(range(2)):
            self.assertIs(is_order(WORKS, order), True)
        for order in itertools.islice(itertools.permutations(range(8)), 0, None, 997):
            self.assertIs(is_order(FULL, order), True)
        self.assertIs(is_order(BARE, ()), True)
        for thing in ((), (0,), (1,), (0, 0), (1, 1), (0, 2), (-1, 0), (0, 1, 1), (0, 1, 2), [0, 1], (False, True), (0, True), (0, None)):
            self.assertIs(is_order(WORKS, thing), False)
        for thing in ((0,), [], None, ((),)):
            self.assertIs(is_order(BARE, thing), False)
        for other in otherwise((1, 0)):
            self.assertIs(is_order(WORKS, other), False)

    def test_is_order_of_any_value(self):
        for value in any_values():
            self.assertIs(is_order(WORKS, value), value == (0, 1) and type(value[0]) is int)
            self.assertIs(is_order(BARE, value), value == ())


if __name__ == "__main__":
    unittest.main()
