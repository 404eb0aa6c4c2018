"""[12]: whether any value is what a word of the document says."""

import copy
import unittest

from neverheaps import forms
from neverheaps.store import Heaps
from tests.samples import BARE, FULL, RINGS, SENDER, WORDY, WORKS, any_values, otherwise

RUN = (0, 1, 0)
PLAY = [(0,), (1,), (0,)]
NO_HANDS = (("a", "b"), (), (((1, 0), (0, 1), None),))

# Each function with arguments ahead of the last one, and things that are so.
RIGHT = [
    (forms.is_integer, (), [0, 1, -1, 10 ** 39, -(10 ** 39)]),
    (forms.is_name, (), ["a", "z", "to", "abcdef", "zzzzzz"]),
    (forms.is_fraction, (), [(0, 1), (1, 1), (-1, 1), (1, 2), (-3, 2), (10 ** 39, 10 ** 39 - 1), (-(10 ** 39), 1)]),
    (forms.is_works, (), [WORKS, BARE, FULL, WORDY, NO_HANDS, (("a",), ("b",), (((9,), (0,), "b"),))]),
    (forms.is_amounts, (WORKS,), [(0, 0, 0), (1, 2, 3), (10 ** 39, 0, 1)]),
    (forms.is_amounts, (BARE,), [(0,), (5,)]),
    (forms.is_crew, (WORKS,), [(0,), (1,), (10 ** 39,)]),
    (forms.is_crew, (BARE,), [()]),
    (forms.is_crew, (FULL,), [(0, 0, 0), (1, 2, 3)]),
    (forms.is_recipe, (WORKS,), list(WORKS[2]) + [((1, 1, 1), (0, 0, 0), "h"), ((9, 0, 0), (0, 9, 9), None)]),
    (forms.is_recipe, (BARE,), [((1,), (0,), None)]),
    (forms.is_deeds, (WORKS,), [(), (0,), (1,), (0, 1, 1, 0), (1,) * 2900]),
    (forms.is_deeds, (BARE,), [()]),
    (forms.is_sender, (WORKS,), [SENDER, RINGS, (1, ()), (10 ** 9, ((0, 10 ** 9 - 1, (0, 0, 0), (0,)),))]),
    (forms.is_sender, (BARE,), [(1, ((0, 0, (3,), ()),)), (2, ())]),
    (forms.is_run, (SENDER,), [(), (0,), (0, 1), (0, 1, 0, 1, 0)]),
    (forms.is_run, (RINGS,), [(), (0, 4, 4, 2, 7, 1), (0, 2, 3)]),
    (forms.is_ring, (SENDER,), [(0, 1)]),
    (forms.is_ring, (RINGS,), [(0, 1), (4,), (0, 2, 3), (2, 7)]),
    (forms.is_play, (WORKS, SENDER, ()), [[]]),
    (forms.is_play, (WORKS, SENDER, RUN), [PLAY, [(), (), ()], [(0,), (), (0,)], [(), (), (0,)]]),
    (forms.is_tariff, (WORKS,), [((1, 0, 0), (0,)), ((0, 0, 0), (1,)), ((-1, -2, 3), (4,)), ((0, 0, -1), (0,))]),
    (forms.is_tariff, (BARE,), [((1,), ()), ((-(10 ** 39),), ())]),
    (forms.is_shares, (WORKS,), [((0, 1), (0, 1)), ((1, 2), (7, 3)), ((10 ** 39, 1), (0, 1))]),
    (forms.is_shares, (BARE,), [()]),
]

# Things that are not so, though each of their parts is of the right kind.
WRONG = [
    (forms.is_name, (), ["", "abcdefg", "A", "aB", "a1", "a b", "a\n", " a", "`", "{", "_", "\u00e4", "\u0430"]),
    (forms.is_fraction, (), [(2, 4), (0, 2), (1, 0), (1, -1), (0, 0), (-1, -2), (3, 3), (1,), (1, 2, 3), (0, -1)]),
    (forms.is_works, (), [
        ((), (), ()), (("a",) * 2, (), ()), (tuple("abcdef"), (), ()), (("a",), tuple("hjkl"), ()),
        (("a",), ("h", "h"), ()), (("a", "h"), ("h",), ()), (("A",), (), ()), (("a",), ("",), ()),
        (("a",), (), (((1,), (0,), None),) * 9), (("a",), (), (((0,), (0,), None),)), (("a",), (), (((1,), (0,), "a"),)),
        (("a",), (), (((-1,), (0,), None),)), (("a", "b"), (), (((1, 0), (1, 0), None),)), (("a",), ()),
        (("a", "b"), (), (((0, 1), (1, 0), None),)), (("a", "b"), (), (((1, 0), (0, -1), None),)), WORKS + ((),),
        (("a", "b"), (), (((1, 0), (0, 0), None), ((1, 1), (0, 1), None))), (("a", "b"), (), (((1,), (0,), None),)),
        ("a", (), ()), (("a",), "h", ()), (("abcdefg",), (), ()), (("a",), (), (((1,), (0,), "h"),)),
    ]),
    (forms.is_amounts, (WORKS,), [(), (0, 0), (0, 0, 0, 0), (0, -1, 0), (0,), (0, 0, True), [0, 0, 0]]),
    (forms.is_crew, (WORKS,), [(), (0, 0), (-1,), (False,), [0]]),
    (forms.is_crew, (BARE,), [(0,), []]),
    (forms.is_recipe, (WORKS,), [
        ((0, 0, 0), (0, 0, 0), None), ((0, 0, 0), (0, 0, 1), None), ((1, 0, 0), (1, 0, 0), None),
        ((0, 1, 0), (1, 0, 0), None), ((0, 1, 0), (1, 0, 1), None), ((1, 1, 0), (0, 1, 1), None), ((1, 0, 1), (0, 1, 0), None),
        ((1, 0, 1), (0, 0, 1), "h"),
        ((1, 0, 0), (0, 0, 0), "a"), ((1, 0, 0), (0, 0, 0), "k"), ((1, 0), (0, 0, 0), None), ((1, 0, 0), (0, 0), None),
        ((1, -1, 0), (0, 0, 0), None), ((1, 0, 0), (0, -1, 0), None), ((1, 0, 0), (0, 0, 0)), ((1, 0, 0), (0, 1, 0), ""),
    ]),
    (forms.is_deeds, (WORKS,), [(2,), (-1,), (0, 2), (0, True), [0], (0, 1, -2)]),
    (forms.is_deeds, (BARE,), [(0,), []]),
    (forms.is_sender, (WORKS,), [
        (0, ()), (-1, ()), (1, ((0, 1, (0, 0, 0), (0,)),)), (1, ((1, 0, (0, 0, 0), (0,)),)), (True, ()), (1, []),
        (1, ((-1, 0, (0, 0, 0), (0,)),)), (1, ((0, -1, (0, 0, 0), (0,)),)), (1, ((0, 0, (0, 0), (0,)),)),
        (1, ((0, 0, (0, 0, 0), ()),)), (1, ((0, 0, (0, 0, -1), (0,)),)), (1, ((0, 0, (0, 0, 0), (-1,)),)), (1,),
        (1, ((0, 0, (0, 0, 0)),)), (2, (), ()), (1, ((0, 0, (0, 0, 0), (0,), 0),)), (2, ((0, 0, (0, 0, 0), (0, 0)),)),
    ]),
    (forms.is_run, (SENDER,), [(1,), (0, 0), (0, 1, 1), (2,), (-1,), (0, -1), [0]]),
    (forms.is_run, (RINGS,), [(5,), (6,), (0, 1, 2), (0, 8), (3,)]),
    (forms.is_ring, (SENDER,), [(), (1, 0), (0,), (0, 1, 0, 1), (0, 0), (2,), (-2, -1), [0, 1]]),
    (forms.is_ring, (RINGS,), [(5,), (6,), (0, 4, 1), (1, 0), (2, 3, 0), (7, 2), (3, 0, 2), (0, 2, 7, 1), (0, 2), (2, 3), (0, 3), (0, 7, 3)]),
    (forms.is_play, (WORKS, SENDER, ()), [[()], (), None]),
    (forms.is_play, (WORKS, SENDER, RUN), [
        [], [(0,), (1,)], [(0,), (1,), (0,), ()], [(0, 0), (1,), (0,)], [(1,), (), ()], [(), (0,), ()], [(2,), (), ()],
        [(0,), (1, 1), (0,)], [(), (1,), ()], [(), (), (0, 0)], [(-1,), (), ()], [(0,), (), (1, 1)], tuple(PLAY),
    ]),
    (forms.is_tariff, (WORKS,), [
        ((0, 0, 0), (0,)), ((1, 0, 0), (-1,)), ((1, 0), (0,)), ((1, 0, 0), ()), ((1, 0, 0, 0), (0,)), ((1, 0, 0),),
        ((1, 0, 0), (0, 0)), ((0, 0, 0), (-1,)), ((1, 0, 0), (0,), ()), ((False, 0, 0), (True,)),
    ]),
    (forms.is_tariff, (BARE,), [((0,), ()), ((1,), (0,)), (1, ())]),
    (forms.is_shares, (WORKS,), [
        (), ((0, 1),), ((0, 1),) * 3, ((-1, 1), (0, 1)), ((2, 2), (0, 1)), ((0, 1), (0, 2)), ((1, 0), (0, 1)), (0, 1),
    ]),
    (forms.is_shares, (BARE,), [((0, 1),), []]),
]


class FormsTest(unittest.TestCase):

    def check(self, function, ahead, thing, told):
        before = copy.deepcopy((ahead, thing))
        found = function(*ahead, thing)
        self.assertIs(found, told, (function.__name__, ahead, thing))
        if not has_object(thing):
            self.assertEqual((ahead, thing), before)

    def test_all_functions_are_here(self):
        names = {function.__name__ for function, _, _ in RIGHT}
        self.assertEqual(len(names), 14)

    def test_what_is_so(self):
        for function, ahead, things in RIGHT:
            for thing in things:
                self.check(function, ahead, thing, True)

    def test_what_is_not_so(self):
        for function, ahead, things in WRONG:
            for thing in things:
                self.check(function, ahead, thing, False)

    def test_one_part_otherwise_at_any_depth(self):
        for function, ahead, things in RIGHT:
            for thing in things:
                if not isinstance(thing, tuple) or len(thing) < 100:
                    for other in otherwise(thing):
                        self.check(function, ahead, other, False)

    def test_any_value_is_told_of(self):
        for function, ahead, things in RIGHT:
            for value in any_values():
                found = function(*ahead, value)
                self.assertIn(found, (True, False))
                self.assertIsInstance(found, bool)

    def test_other_kinds_of_values(self):
        for function, ahead, things in RIGHT:
            for value in (None, True, False, {}, {0: 0}, Heaps(WORKS), [Heaps(WORKS)], (Heaps(WORKS),) * 3):
                self.check(function, ahead, value, False)

    def test_integers_and_truths(self):
        for value in any_values():
            told = type(value) is int
            self.assertIs(forms.is_integer(value), told)

    def test_each_letter(self):
        for code in range(256):
            letter = chr(code)
            self.assertIs(forms.is_name("a" + letter), "a" <= letter <= "z", letter)

    def test_bounds_are_not_checked(self):
        self.assertIs(forms.is_recipe(WORKS, ((5, 0, 0), (0, 99, 0), None)), True)
        self.assertIs(forms.is_sender(WORKS, (11, ((0, 10, (10, 0, 0), (10,)),) * 30)), True)
        self.assertIs(forms.is_run(SENDER, (0, 1) * 1000), True)
        self.assertIs(forms.is_works((("a",), (), (((10 ** 39,), (0,), None),))), True)
        self.assertIs(forms.is_tariff(BARE, ((10 ** 39,), ())), True)


def has_object(thing):
    """Whether an object of the package stands somewhere in it."""
    if isinstance(thing, (list, tuple)):
        return any(has_object(item) for item in thing)
    if isinstance(thing, dict):
        return any(has_object(item) for item in list(thing) + list(thing.values()))
    return not (thing is None or isinstance(thing, (int, str)))


if __name__ == "__main__":
    unittest.main()
