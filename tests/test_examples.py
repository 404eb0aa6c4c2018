"""The examples of the document, as they stand there, and those of the README."""

import doctest
import pathlib
import unittest

README = pathlib.Path(__file__).resolve().parent.parent / "README.md"

BEHIND_15 = """
>>> from neverheaps.reader import read_sender
>>> from neverheaps.texts import show_works
>>> from neverheaps.works import levels, raw_kinds, with_hand
>>> works = (("a", "b", "c"), ("h",), (((2, 0, 0), (0, 1, 0), "h"), ((0, 1, 1), (0, 0, 0), None)))
>>> [levels(works), raw_kinds(works), with_hand(works, "k")[1]]
[[0, 1], ('a', 'c'), ('h', 'k')]
>>> show_works(works)
'kinds a b c\\nhands h\\nrecipe 2 a to 1 b by h\\nrecipe 1 b 1 c to'
>>> read_sender(works, "places 2\\n# goods\\narrow 0 1 2 a with 1 h\\narrow 1 0 1 c with")
(2, ((0, 1, (2, 0, 0), (1,)), (1, 0, (0, 0, 1), (0,))))
"""

BEHIND_19 = """
>>> from neverheaps.ends import ends_of, low_ends
>>> from neverheaps.orders import deeds_by, order_play
>>> from neverheaps.play import played, sums_of
>>> from neverheaps.store import Heaps
>>> works = (("a", "b", "c"), ("h",), (((2, 0, 0), (0, 1, 0), "h"), ((0, 1, 1), (0, 0, 0), None)))
>>> store = Heaps(works)
>>> [store.beat((2, 0, 0), (1,), (0,)), store.heaps(), store.beat((0, 0, 1), (0,), (1,)), store.heaps()]
[None, (0, 1, 0), None, (0, 0, 0)]
>>> ends_of(works, (2, 0, 1), (1,))
{(0, 0, 0): (0, 1), (0, 1, 1): (0,), (2, 0, 1): ()}
>>> [low_ends(works, (2, 0, 1), (1,)), low_ends(works, (2, 0, 0), (1,)), deeds_by(works, (1, 0), (2, 0, 1), (1,))]
[[(0, 0, 0)], [(0, 1, 0), (2, 0, 0)], (0, 1)]
>>> sender = (2, ((0, 1, (2, 0, 0), (1,)), (1, 0, (0, 0, 1), (0,))))
>>> play = order_play(works, sender, (0, 1), (0, 1, 0))
>>> [play, played(works, sender, (0, 1, 0), play), sums_of(works, sender, (0, 1, 0), play)]
[[(0,), (1,), (0,)], [(0, 1, 0), (0, 0, 0), (0, 1, 0)], ((4, 0, 1), (2,), (2, 1))]
"""

BEHIND_22 = """
>>> from neverheaps.spans import edges_of, least_shares, row_against, shares_for
>>> from neverheaps.tariffs import book_of, pay, worth
>>> from neverheaps.ways import can_work_off, tariff_against, ways_of
>>> works = (("a", "b"), ("h",), (((1, 0), (0, 0), "h"), ((1, 1), (0, 0), None)))
>>> book_of(works)
[((-1, 1), (0,)), ((0, -1), (0,)), ((1, -1), (1,))]
>>> [worth(((1, -1), (1,)), (3, 1)), pay(((1, -1), (1,)), (2,))]
[2, 2]
>>> ways_of(works)
[((1, 0), (1,)), ((1, 1), (0,))]
>>> [can_work_off(works, (3, 1), (2,)), can_work_off(works, (3, 1), (1,)), tariff_against(works, (3, 1), (2,))]
[((2, 1), (1, 1)), None, None]
>>> [shares_for(((2, 0), (0, 3)), (1, 1)), row_against(((2, 0), (0, 3)), (1, 1)), edges_of(((1, 1), (0, -1)), 2)]
[((1, 2), (1, 3)), None, [(-1, 0), (-1, 1)]]
>>> least_shares(((1,), (3,)), (6,), (2, 5))
((0, 1), (2, 1))
"""

BEHIND_26 = """
>>> from neverheaps.heights import greatest_mean, mean_heights
>>> from neverheaps.held import holds, is_why_not
>>> from neverheaps.plans import is_plan, row_deeds
>>> from neverheaps.rings import rings_of, sum_of
>>> works = (("a",), ("h",), (((1,), (0,), "h"),))
>>> sender = (2, ((0, 1, (1,), (0,)), (1, 0, (0,), (1,)), (1, 1, (2,), (1,))))
>>> [rings_of(sender), sum_of(works, sender, (0, 1))]
[[(0, 1), (2,)], ((1,), (1,))]
>>> tariff = ((1,), (1,))
>>> [greatest_mean(sender, tariff), mean_heights((2, sender[1][:2]), tariff)]
[(1, 1), (0, 1)]
>>> [holds(works, sender), is_why_not(works, sender, ((2,), tariff)), holds(works, (2, sender[1][:2]))]
[False, True, True]
>>> [is_plan(works, sender, (0, 1), (1, ((0,), (1,)), (0,))), is_plan(works, sender, (0, 1), (1, ((1,), (0,)), (0,)))]
[True, False]
>>> row_deeds(works, (3,))
(0, 0, 0)
"""

BEHIND_29 = """
>>> from neverheaps.bounds import rooms_told
>>> from neverheaps.cutting import cut, rounds_of
>>> from neverheaps.tracker import Tracker
>>> works = (("a",), ("h",), (((1,), (0,), "h"),))
>>> sender = (2, ((0, 1, (1,), (0,)), (1, 0, (0,), (1,)), (1, 1, (0,), (0,))))
>>> run = (0, 2, 1, 0, 2, 2)
>>> cut(sender, run)
([(1, (2,)), (2, (0, 1)), (4, (2,)), (5, (2,))], (0,))
>>> rounds_of(sender, run)
[((0, 1), 1), ((2,), 3)]
>>> tracker = Tracker(works, sender)
>>> [tracker.beat(0), tracker.heaps(), tracker.stands_at()]
[(), (1,), 1]
>>> rooms = rooms_told(works, sender)
>>> done = [[tracker.beat(1), tracker.beat(0)] for turn in range(40)]
>>> [tracker.heaps() <= rooms, len(tracker.log()), tracker.stands_at()]
[True, 81, 1]
"""

BEHIND_35 = """
>>> from neverheaps.ahead import keeps_ahead
>>> from neverheaps.hindsight import breaking_run, least_hindsight
>>> from neverheaps.leastplay import least_break
>>> from neverheaps.leastrooms import least_rooms
>>> from neverheaps.tables import table_for
>>> from neverheaps.trees import tree_against
>>> works = (("a",), ("h",), (((1,), (0,), "h"),))
>>> sender = (2, ((0, 1, (0,), (1,)), (1, 0, (1,), (0,))))
>>> table_for(works, sender, (1,))
{(0, (0,)): ((0, ()),), (0, (1,)): ((0, (0,)),), (1, (0,)): ((1, ()),)}
>>> tree_against(works, sender, (0,))
{(0, (0,)): (0, 2), (1, (0,)): (1, 1)}
>>> works = (("a", "b", "c"), (), (((1, 1, 0), (0, 0, 0), None), ((1, 0, 1), (0, 0, 0), None)))
>>> sender = (3, ((0, 1, (1, 1, 1), ()), (1, 2, (0, 1, 0), ()), (1, 2, (0, 0, 1), ())))
>>> [least_rooms(works, sender, 1), least_hindsight(works, sender, 1), breaking_run(works, sender, (0, 0, 1))]
[[(1, 1, 1)], [(0, 1, 1)], (0, 1)]
>>> [[keeps_ahead(works, sender, (0, 1, 1), many) for many in (0, 1)], least_break(works, sender, (0, 1, 1))]
[[False, True], (0,)]
"""


class ExamplesTest(unittest.TestCase):

    def check(self, text):
        test = doctest.DocTestParser().get_doctest(text, {}, "example", None, 0)
        told = []
        found = doctest.DocTestRunner(verbose=False).run(test, out=told.append)
        self.assertGreater(found.attempted, 5)
        self.assertEqual(found.failed, 0, "".join(told))

    def test_behind_15(self):
        self.check(BEHIND_15)

    def test_behind_19(self):
        self.check(BEHIND_19)

    def test_behind_22(self):
        self.check(BEHIND_22)

    def test_behind_26(self):
        self.check(BEHIND_26)

    def test_behind_29(self):
        self.check(BEHIND_29)

    def test_behind_35(self):
        self.check(BEHIND_35)

    def test_readme(self):
        self.check(README.read_text())


if __name__ == "__main__":
    unittest.main()
