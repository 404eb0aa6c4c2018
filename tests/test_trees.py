"""[31] and [10]: trees of arrows against which nobody keeps rooms."""

import unittest

from neverheaps.tables import are_enough, safe_positions
from neverheaps.trees import is_tree, tree_against
from tests import slow
from tests.samples import BARE, any_values, asked, otherwise, seeded
from tests.test_tables import CHOICE, GREAT, LATER, ONE, TURN, choice_case, great_sender, random_case


class TreesTest(unittest.TestCase):

    def check(self, works, sender, rooms):
        """The tree, or None if rooms are enough; with the least numbers and arrows, and all positions that are not safe."""
        tree = asked(self, tree_against, works, sender, rooms)
        self.assertIs(tree is None, are_enough(works, sender, rooms))
        if tree is not None:
            self.assertEqual(tree, slow.tree(works, sender, rooms))
            safe = safe_positions(works, sender, rooms)
            self.assertEqual(list(tree), [position for position in slow.positions(sender, rooms) if position not in safe])
            self.assertIs(asked(self, is_tree, works, sender, rooms, tree), True)
        return tree

    def test_the_example(self):
        self.assertEqual(self.check(ONE, TURN, (0,)), {(0, (0,)): (0, 2), (1, (0,)): (1, 1)})
        self.assertIsNone(self.check(ONE, TURN, (1,)))
        self.assertEqual(self.check(CHOICE, LATER, (0, 1, 1))[0, (0, 0, 0)], (0, 2))

    def test_numbers_count_beats(self):
        loop = (1, ((0, 0, (0,), (0,)), (0, 0, (1,), (0,)), (0, 0, (2,), (1,))))
        tree = self.check(ONE, loop, (5,))
        self.assertEqual(tree, {(0, (heaps,)): (1, 6 - heaps) for heaps in range(6)})
        # Of two arrows that do as well the lesser one stands there.
        twice = (1, ((0, 0, (1,), (1,)), (0, 0, (1,), (0,)), (0, 0, (2,), (1,))))
        self.assertEqual(self.check(ONE, twice, (3,))[0, (0,)], (1, 4))
        fast = (1, ((0, 0, (1,), (0,)), (0, 0, (2,), (0,))))
        self.assertEqual(self.check(ONE, fast, (3,)), {(0, (3,)): (0, 1), (0, (2,)): (1, 1), (0, (1,)): (0, 2), (0, (0,)): (1, 2)})

    def test_places_that_are_not_come_to(self):
        sender = (3, TURN[1] + ((2, 2, (1,), (0,)),))
        self.assertEqual(self.check(ONE, sender, (0,)), {(0, (0,)): (0, 2), (1, (0,)): (1, 1), (2, (0,)): (2, 1)})
        self.assertIsNone(self.check(ONE, sender, (1,)))

    def test_many(self):
        rng = seeded(3101)
        seen = {True: 0, False: 0}
        for turn in range(250):
            works, sender, rooms = choice_case(rng) if turn % 2 else random_case(rng)
            seen[self.check(works, sender, rooms) is None] += 1
        self.assertGreater(min(seen.values()), 50)

    def test_up_to_the_bounds(self):
        rng = seeded(5)
        many = 0
        for rooms in ((4, 1, 1, 4, 2), (1, 2, 4, 1, 4), (9, 0, 1, 0, 14)):
            for _ in range(3):
                sender = great_sender(rng)
                tree = asked(self, tree_against, GREAT, sender, rooms)
                self.assertIs(tree is None, are_enough(GREAT, sender, rooms))
                if tree is not None:
                    many += 1
                    self.assertIs(is_tree(GREAT, sender, rooms, tree), True)
                    self.assertEqual(len(tree) + len(safe_positions(GREAT, sender, rooms)), 3000)
        self.assertGreater(many, 2)
        loop = (1, ((0, 0, (0,), ()), (0, 0, (1,), ())))
        self.assertEqual(tree_against(BARE, loop, (2999,))[0, (0,)], (1, 3000))


class IsTreeTest(unittest.TestCase):

    def judge(self, works, sender, rooms, thing):
        return asked(self, is_tree, works, sender, rooms, thing)

    def test_words(self):
        good = {(0, (0,)): (0, 2), (1, (0,)): (1, 1)}
        self.assertIs(self.judge(ONE, TURN, (0,), good), True)
        self.assertIs(self.judge(ONE, TURN, (0,), dict(reversed(list(good.items())))), True)
        for first, second, fits in (((0, 7), (1, 3), True), ((0, 2), (1, 2), False), ((0, 1), (1, 2), False), ((0, 1), (1, 0), False),
                                    ((0, 10 ** 39), (1, 10 ** 39 - 1), True), ((1, 2), (1, 1), False), ((0, 2), (0, 1), False),
                                    ((0, 2), (2, 1), False), ((0, 2), (-1, 1), False), ((0, 2, 0), (1, 1), False),
                                    ((0,), (1, 1), False), ((False, 2), (1, 1), False), ((0, 2), (1, True), False),
                                    ((0, 2), (True, 1), False), ([0, 2], (1, 1), False), ((0, None), (1, 1), False)):
            self.assertIs(self.judge(ONE, TURN, (0,), {(0, (0,)): first, (1, (0,)): second}), fits, (first, second))

    def test_keys(self):
        good = {(0, (0,)): (0, 2), (1, (0,)): (1, 1)}
        self.assertIs(self.judge(ONE, TURN, (0,), {(1, (0,)): (1, 1)}), False)
        self.assertIs(self.judge(ONE, TURN, (0,), {(0, (0,)): (0, 2)}), False)
        self.assertIs(self.judge(ONE, TURN, (0,), {}), False)
        for key in ((0, (1,)), (2, (0,)), (0, ()), (0,), 0, None, "a", (0, 0), (0, (0,), 0), (-1, (0,))):
            thing = dict(good)
            thing[key] = (0, 2)
            self.assertIs(self.judge(ONE, TURN, (0,), thing), False)
        self.assertIs(self.judge(ONE, TURN, (0,), {(False, (0,)): (0, 2), (1, (0,)): (1, 1)}), False)
        self.assertIs(self.judge(ONE, TURN, (0,), {(0, (0,)): (0, 2), (1, (False,)): (1, 1)}), False)

    def test_where_rooms_are_enough_there_is_none(self):
        for tree in ({(0, (0,)): (0, 2), (1, (0,)): (1, 1)}, {(0, (0,)): (0, 3), (1, (0,)): (1, 2), (0, (1,)): (0, 1)},
                     {(0, (0,)): (0, 1)}):
            self.assertIs(self.judge(ONE, TURN, (1,), tree), False)

    def test_fewer_positions_with_other_numbers(self):
        loop = (1, ((0, 0, (0,), (0,)), (0, 0, (1,), (0,)), (0, 0, (2,), (1,))))
        self.assertIs(self.judge(ONE, loop, (2,), {(0, (0,)): (1, 9), (0, (1,)): (1, 5), (0, (2,)): (1, 1)}), True)
        self.assertIs(self.judge(ONE, loop, (2,), {(0, (0,)): (2, 9), (0, (1,)): (1, 5), (0, (2,)): (2, 1)}), True)
        self.assertIs(self.judge(ONE, loop, (2,), {(0, (0,)): (2, 9), (0, (1,)): (1, 9), (0, (2,)): (2, 1)}), False)
        self.assertIs(self.judge(ONE, loop, (2,), {(0, (0,)): (0, 9), (0, (1,)): (1, 5), (0, (2,)): (1, 1)}), False)

    def test_any_value(self):
        good = {(0, (0,)): (0, 2), (1, (0,)): (1, 1)}
        for thing in any_values() + [list(good.items()), (good,), [good]]:
            self.assertIs(is_tree(ONE, TURN, (0,), thing), False)
        for key, step in good.items():
            for other in otherwise(step):
                changed = dict(good)
                changed[key] = other
                self.assertIs(is_tree(ONE, TURN, (0,), changed), False)

    def test_one_part_otherwise_of_greater_trees(self):
        rng = seeded(3102)
        seen = {True: 0, False: 0}
        while sum(seen.values()) < 600:
            works, sender, rooms = choice_case(rng) if rng.random() < 0.5 else random_case(rng)
            tree = tree_against(works, sender, rooms)
            for position, (index, number) in list((tree or {}).items())[:20]:
                for other in ((index, number + 1), (index, number - 1), (index + 1, number), (index - 1, number), None):
                    changed = dict(tree)
                    changed[position] = other
                    if other is None:
                        del changed[position]
                    fits = self.judge(works, sender, rooms, changed)
                    self.assertIs(fits, slow.is_tree(works, sender, rooms, changed))
                    seen[fits] += 1
        self.assertGreater(min(seen.values()), 30)


if __name__ == "__main__":
    unittest.main()
