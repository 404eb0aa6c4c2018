"""[13]: questions about a works, and works made from works."""

import copy
import unittest

from neverheaps import works as module
from neverheaps.errors import NoName, TooMany, Used
from neverheaps.forms import is_sender, is_works
from tests.samples import BARE, FULL, SENDER, WORKS, any_values, random_sender, random_works, seeded


def slow_levels(works):
    """The depth of each recipe, word by word."""
    def depth(recipe):
        ahead = [other for other in works[2] if any(p and t for p, t in zip(other[1], recipe[0]))]
        return 1 + max(depth(other) for other in ahead) if ahead else 0
    return [depth(recipe) for recipe in works[2]]


class WorksTest(unittest.TestCase):

    def test_places(self):
        for place, name in enumerate(FULL[0]):
            self.assertEqual(module.kind_place(FULL, name), place)
        for place, name in enumerate(FULL[1]):
            self.assertEqual(module.hand_place(FULL, name), place)

    def test_no_name_keeps_any_other_value(self):
        for value in any_values() + ["d", "k", "abc", "H", ("a",), ["h"]]:
            for function, names in ((module.kind_place, WORKS[0]), (module.hand_place, WORKS[1])):
                if not (isinstance(value, str) and value in names):
                    with self.assertRaises(NoName) as caught:
                        function(WORKS, value)
                    self.assertIs(caught.exception.name, value)

    def test_a_kind_is_no_hand(self):
        for function, name in ((module.kind_place, "h"), (module.hand_place, "a")):
            with self.assertRaises(NoName) as caught:
                function(WORKS, name)
            self.assertEqual(caught.exception.name, name)

    def test_raw_kinds(self):
        self.assertEqual(module.raw_kinds(WORKS), ("a", "c"))
        self.assertEqual(module.raw_kinds(BARE), ("a",))
        self.assertEqual(module.raw_kinds(FULL), ("a",))
        self.assertEqual(module.raw_kinds((("b", "a"), (), (((1, 0), (0, 0), None),))), ("b", "a"))

    def test_levels(self):
        self.assertEqual(module.levels(WORKS), [0, 1])
        self.assertEqual(module.levels(BARE), [])
        self.assertEqual(module.levels(FULL), [0, 1, 1, 2, 3, 3, 3, 3])
        chain = (("a", "b", "c"), (), (((0, 0, 1), (0, 0, 0), None), ((0, 1, 0), (0, 0, 1), None), ((1, 0, 0), (0, 1, 0), None)))
        self.assertEqual(module.levels(chain), [2, 1, 0])

    def test_levels_of_many_works(self):
        rng = seeded(13)
        for _ in range(300):
            works = random_works(rng)
            self.assertEqual(module.levels(works), slow_levels(works), works)

    def test_renamed_works(self):
        names = {"h": "machin", "c": "a", "b": "to", "a": "c"}
        before = dict(names)
        found = module.renamed_works(WORKS, names)
        self.assertEqual(found, (("c", "to", "a"), ("machin",), (((2, 0, 0), (0, 1, 0), "machin"), WORKS[2][1])))
        self.assertEqual(names, before)
        self.assertEqual(module.renamed_works(BARE, {"a": "h"}), (("h",), (), ()))
        swapped = {"a": "h", "b": "j", "c": "k", "d": "x", "e": "y", "h": "a", "j": "b", "k": "c"}
        back = {new: old for old, new in swapped.items()}
        self.assertEqual(module.renamed_works(module.renamed_works(FULL, swapped), back), FULL)

    def test_with_recipe(self):
        recipe = ((1, 0, 0), (0, 0, 2), "h")
        found = module.with_recipe(WORKS, recipe)
        self.assertEqual(found, (WORKS[0], WORKS[1], WORKS[2] + (recipe,)))
        works = BARE
        for many in range(8):
            works = module.with_recipe(works, ((many + 1,), (0,), None))
            self.assertEqual(len(works[2]), many + 1)
        with self.assertRaises(TooMany) as caught:
            module.with_recipe(works, ((1,), (0,), None))
        self.assertEqual(caught.exception.most, 8)

    def test_without_recipes(self):
        self.assertEqual(module.without_recipes(WORKS, ()), WORKS)
        self.assertEqual(module.without_recipes(WORKS, (0,)), (WORKS[0], WORKS[1], WORKS[2][1:]))
        self.assertEqual(module.without_recipes(WORKS, (0, 1)), (WORKS[0], WORKS[1], ()))
        found = module.without_recipes(FULL, (1, 5, 7))
        self.assertEqual(found[2], tuple(FULL[2][index] for index in (0, 2, 3, 4, 6)))

    def test_with_hand(self):
        self.assertEqual(module.with_hand(WORKS, "k"), (WORKS[0], ("h", "k"), WORKS[2]))
        self.assertEqual(module.with_hand(BARE, "zzzzzz"), (("a",), ("zzzzzz",), ()))
        for name in ("a", "b", "c", "h"):
            with self.assertRaises(Used) as caught:
                module.with_hand(WORKS, name)
            self.assertEqual(caught.exception.name, name)

    def test_with_a_fourth_hand(self):
        # A name in use is told first.
        for name in ("a", "k"):
            with self.assertRaises(Used) as caught:
                module.with_hand(FULL, name)
            self.assertEqual(caught.exception.name, name)
        with self.assertRaises(TooMany) as caught:
            module.with_hand(FULL, "new")
        self.assertEqual(caught.exception.most, 3)
        two = (("a",), ("h", "j"), ())
        self.assertEqual(module.with_hand(two, "k")[1], ("h", "j", "k"))

    def test_led_sender(self):
        found = module.led_sender(SENDER, 5)
        self.assertEqual(found, (2, ((0, 1, (2, 0, 0), (1, 5)), (1, 0, (0, 0, 1), (0, 5)))))
        self.assertTrue(is_sender(module.with_hand(WORKS, "k"), found))
        self.assertEqual(module.led_sender((3, ()), 0), (3, ()))
        self.assertEqual(module.led_sender((1, ((0, 0, (1,), ()),)), 0), (1, ((0, 0, (1,), (0,)),)))

    def test_what_is_made_is_a_works_and_nothing_is_changed(self):
        rng = seeded(14)
        for _ in range(100):
            works = random_works(rng, hands=rng.randint(0, 2), recipes=rng.randint(0, 7))
            sender = random_sender(rng, works)
            before = copy.deepcopy((works, sender))
            wider = module.with_hand(works, "new")
            self.assertTrue(is_works(wider))
            self.assertTrue(is_sender(wider, module.led_sender(sender, 3)))
            self.assertTrue(is_works(module.with_recipe(works, ((1,) * len(works[0]), (0,) * len(works[0]), None))))
            gone = tuple(index for index in range(len(works[2])) if rng.random() < 0.5)
            self.assertEqual(len(module.without_recipes(works, gone)[2]), len(works[2]) - len(gone))
            self.assertEqual((works, sender), before)

    def test_lists_are_new(self):
        found = module.levels(WORKS)
        found.append(7)
        self.assertEqual(module.levels(WORKS), [0, 1])


if __name__ == "__main__":
    unittest.main()
