"""The examples of the document, as they stand there, and those of the README."""

import doctest
import pathlib
import unittest

README = pathlib.Path(__file__).resolve().parent.parent / "README.md"

BEHIND_15 = """
>>> from neverheaps.reader import read_sender
>>> from neverheaps.texts import show_works
>>> from neverheaps.works import levels, raw_kinds, with_hand
>>> works = (("a", "b", "c"), ("h",), (((2, 0, 0), (0, 1, 0), "h"), ((0, 1, 1), (0, 0, 0), None)))
>>> [levels(works), raw_kinds(works), with_hand(works, "k")[1]]
[[0, 1], ('a', 'c'), ('h', 'k')]
>>> show_works(works)
'kinds a b c\\nhands h\\nrecipe 2 a to 1 b by h\\nrecipe 1 b 1 c to'
>>> read_sender(works, "places 2\\n# goods\\narrow 0 1 2 a with 1 h\\narrow 1 0 1 c with")
(2, ((0, 1, (2, 0, 0), (1,)), (1, 0, (0, 0, 1), (0,))))
"""

BEHIND_19 = """
>>> from neverheaps.ends import ends_of, low_ends
>>> from neverheaps.orders import deeds_by, order_play
>>> from neverheaps.play import played, sums_of
>>> from neverheaps.store import Heaps
>>> works = (("a", "b", "c"), ("h",), (((2, 0, 0), (0, 1, 0), "h"), ((0, 1, 1), (0, 0, 0), None)))
>>> store = Heaps(works)
>>> [store.beat((2, 0, 0), (1,), (0,)), store.heaps(), store.beat((0, 0, 1), (0,), (1,)), store.heaps()]
[None, (0, 1, 0), None, (0, 0, 0)]
>>> ends_of(works, (2, 0, 1), (1,))
{(0, 0, 0): (0, 1), (0, 1, 1): (0,), (2, 0, 1): ()}
>>> [low_ends(works, (2, 0, 1), (1,)), low_ends(works, (2, 0, 0), (1,)), deeds_by(works, (1, 0), (2, 0, 1), (1,))]
[[(0, 0, 0)], [(0, 1, 0), (2, 0, 0)], (0, 1)]
>>> sender = (2, ((0, 1, (2, 0, 0), (1,)), (1, 0, (0, 0, 1), (0,))))
>>> play = order_play(works, sender, (0, 1), (0, 1, 0))
>>> [play, played(works, sender, (0, 1, 0), play), sums_of(works, sender, (0, 1, 0), play)]
[[(0,), (1,), (0,)], [(0, 1, 0), (0, 0, 0), (0, 1, 0)], ((4, 0, 1), (2,), (2, 1))]
"""

BEHIND_22 = """
>>> from neverheaps.spans import edges_of, least_shares, row_against, shares_for
>>> from neverheaps.tariffs import book_of, pay, worth
>>> from neverheaps.ways import can_work_off, tariff_against, ways_of
>>> works = (("a", "b"), ("h",), (((1, 0), (0, 0), "h"), ((1, 1), (0, 0), None)))
>>> book_of(works)
[((-1, 1), (0,)), ((0, -1), (0,)), ((1, -1), (1,))]
>>> [worth(((1, -1), (1,)), (3, 1)), pay(((1, -1), (1,)), (2,))]
[2, 2]
>>> ways_of(works)
[((1, 0), (1,)), ((1, 1), (0,))]
>>> [can_work_off(works, (3, 1), (2,)), can_work_off(works, (3, 1), (1,)), tariff_against(works, (3, 1), (2,))]
[((2, 1), (1, 1)), None, None]
>>> [shares_for(((2, 0), (0, 3)), (1, 1)), row_against(((2, 0), (0, 3)), (1, 1)), edges_of(((1, 1), (0, -1)), 2)]
[((1, 2), (1, 3)), None, [(-1, 0), (-1, 1)]]
>>> least_shares(((1,), (3,)), (6,), (2, 5))
((0, 1), (2, 1))
"""

BEHIND_26 = """
>>> from neverheaps.heights import greatest_mean, mean_heights
>>> from neverheaps.held import holds, is_why_not
>>> from neverheaps.plans import is_plan, row_deeds
>>> from neverheaps.rings import rings_of, sum_of
>>> works = (("a",), ("h",), (((1,), (0,), "h"),))
>>> sender = (2, ((0, 1, (1,), (0,)), (1, 0, (0,), (1,)), (1, 1, (2,), (1,))))
>>> [rings_of(sender), sum_of(works, sender, (0, 1))]
[[(0, 1), (2,)], ((1,), (1,))]
>>> tariff = ((1,), (1,))
>>> [greatest_mean(sender, tariff), mean_heights((2, sender[1][:2]), tariff)]
[(1, 1), (0, 1)]
>>> [holds(works, sender), is_why_not(works, sender, ((2,), tariff)), holds(works, (2, sender[1][:2]))]
[False, True, True]
>>> [is_plan(works, sender, (0, 1), (1, ((0,), (1,)), (0,))), is_plan(works, sender, (0, 1), (1, ((1,), (0,)), (0,)))]
[True, False]
>>> row_deeds(works, (3,))
(0, 0, 0)
"""

BEHIND_29 = """
>>> from neverheaps.bounds import rooms_told
>>> from neverheaps.cutting import cut, rounds_of
>>> from neverheaps.tracker import Tracker
>>> works = (("a",), ("h",), (((1,), (0,), "h"),))
>>> sender = (2, ((0, 1, (1,), (0,)), (1, 0, (0,), (1,)), (1, 1, (0,), (0,))))
>>> run = (0, 2, 1, 0, 2, 2)
>>> cut(sender, run)
([(1, (2,)), (2, (0, 1)), (4, (2,)), (5, (2,))], (0,))
>>> rounds_of(sender, run)
[((0, 1), 1), ((2,), 3)]
>>> tracker = Tracker(works, sender)
>>> [tracker.beat(0), tracker.heaps(), tracker.stands_at()]
[(), (1,), 1]
>>> rooms = rooms_told(works, sender)
>>> done = [[tracker.beat(1), tracker.beat(0)] for turn in range(40)]
>>> [tracker.heaps() <= rooms, len(tracker.log()), tracker.stands_at()]
[True, 81, 1]
"""

BEHIND_35 = """
>>> from neverheaps.ahead import keeps_ahead
>>> from neverheaps.hindsight import breaking_run, least_hindsight
>>> from neverheaps.leastplay import least_break
>>> from neverheaps.leastrooms import least_rooms
>>> from neverheaps.tables import table_for
>>> from neverheaps.trees import tree_against
>>> works = (("a",), ("h",), (((1,), (0,), "h"),))
>>> sender = (2, ((0, 1, (0,), (1,)), (1, 0, (1,), (0,))))
>>> table_for(works, sender, (1,))
{(0, (0,)): ((0, ()),), (0, (1,)): ((0, (0,)),), (1, (0,)): ((1, ()),)}
>>> tree_against(works, sender, (0,))
{(0, (0,)): (0, 2), (1, (0,)): (1, 1)}
>>> works = (("a", "b", "c"), (), (((1, 1, 0), (0, 0, 0), None), ((1, 0, 1), (0, 0, 0), None)))
>>> sender = (3, ((0, 1, (1, 1, 1), ()), (1, 2, (0, 1, 0), ()), (1, 2, (0, 0, 1), ())))
>>> [least_rooms(works, sender, 1), least_hindsight(works, sender, 1), breaking_run(works, sender, (0, 0, 1))]
[[(1, 1, 1)], [(0, 1, 1)], (0, 1)]
>>> [[keeps_ahead(works, sender, (0, 1, 1), many) for many in (0, 1)], least_break(works, sender, (0, 1, 1))]
[[False, True], (0,)]
"""

BEHIND_38 = """
>>> from neverheaps.against import bears_all, parting_sender, way_between
>>> from neverheaps.needless import least_lots, needless_recipes
>>> from neverheaps.wanting import bad_rings, barring, wanting
>>> both, alone = ((1, 1), (0, 0), None), ((1, 0), (0, 0), "h")
>>> one, other = (("a", "b"), ("h",), (both,)), (("a", "b"), ("h",), (both, alone))
>>> [bears_all(other, one), bears_all(one, other), way_between(one, other)]
[True, False, ((1, 0), (1,))]
>>> parting_sender(one, other)
(1, ((0, 0, (1, 0), (1,)),))
>>> three = (("a", "b"), ("h",), (both, alone, both))
>>> [needless_recipes(three), least_lots(three)]
[[0, 2], [(0, 1), (1, 2)]]
>>> sender = (1, ((0, 0, (1, 1), (0,)), (0, 0, (2, 1), (0,))))
>>> [bad_rings(one, sender), barring(one, sender, 2), wanting(one, sender, (alone, ((2, 1), (0, 0), None)))]
[[(1,)], [(1,)], [(1,)]]
"""

BEHIND_41 = """
>>> from neverheaps.factor import least_factor
>>> from neverheaps.loss import is_loss_tariff, least_loss, loss_shares, ring_loss
>>> from neverheaps.thrower import Thrower, is_throwing_plan
>>> works = (("a", "b"), ("h",), (((1, 0), (0, 0), "h"), ((2, 0), (0, 1), None)))
>>> sender = (1, ((0, 0, (3, 0), (1,)),))
>>> [ring_loss(works, sender, (0,), (5, 1)), loss_shares(works, sender, (0,), (5, 1))]
[(1, 1), (((0, 1), (1, 1)), ((1, 1), (1, 1)))]
>>> [least_loss(works, sender, (5, 1)), is_loss_tariff(works, sender, (0,), (5, 1), (2, ((1, 2), (1,))))]
[(1, 1), True]
>>> [is_throwing_plan(works, sender, (0,), (1, (0, 1), ((1, 0),), (0, 1))), least_factor(works, sender)]
[True, (3, 1)]
>>> thrower = Thrower(works, sender, (5, 1))
>>> done = [thrower.beat(0) for turn in range(50)]
>>> thrower.paid() <= 50
True
"""

BEHIND_44 = """
>>> from neverheaps.parts import either
>>> from neverheaps.promises import at_most_broken, at_most_come, most_broken
>>> from neverheaps.side import beside, greatest_rate, holds_apart, least_share, places_at
>>> works = (("a",), ("h",), (((1,), (0,), "h"),))
>>> breaker, bringer = at_most_broken(works, "h", 1, 2), at_most_come(works, "a", 1, 2)
>>> [breaker, bringer[1][1]]
[(2, ((0, 0, (0,), (1,)), (0, 1, (0,), (0,)), (1, 0, (0,), (1,)))), (0, 1, (1,), (0,))]
>>> [least_share(works, breaker, "h"), greatest_rate(works, bringer, "a"), most_broken(works, breaker, "h", 3)]
[((1, 2), (1, 2)), ((1, 2), (1, 2)), 2]
>>> [holds_apart(works, bringer, (breaker,)), holds_apart(works, at_most_come(works, "a", 2, 3), (breaker,))]
[True, False]
>>> [beside((bringer, breaker))[0], len(beside((bringer, breaker))[1]), places_at((bringer, breaker), 2)]
[4, 9, (1, 0)]
>>> either(bringer, breaker)[1][:3]
((0, 1, (0,), (0,)), (0, 2, (1,), (0,)), (0, 3, (0,), (1,)))
"""

BEHIND_46 = """
>>> from neverheaps.apart import at_once, is_apart, lots_of, touching_recipes
>>> from neverheaps.piles import good_orders, order_rooms, pile_run
>>> works = (("a", "b"), (), (((1, 0), (0, 0), None), ((1, 1), (0, 0), None)))
>>> turns = (2, ((0, 1, (1, 0), ()), (1, 0, (0, 1), ())))
>>> [pile_run(works, turns, (0, 1), (1, 1)), good_orders(works, turns, (1, 1)), good_orders(works, turns, (1, 0))]
[(0, 1, 0, 1), [(1, 0)], []]
>>> both = (1, ((0, 0, (1, 1), ()),))
>>> [good_orders(works, both, (0, 0)), order_rooms(works, both, (1, 0), 3), order_rooms(works, both, (0, 1), 3)]
[[(1, 0)], (0, 0), None]
>>> [is_apart(works), touching_recipes(works)]
[False, (0, 1)]
>>> apart = (("a", "b"), ("h", "k"), (((2, 0), (0, 0), "h"), ((0, 1), (0, 0), None), ((2, 0), (0, 0), "k")))
>>> [lots_of(apart), at_once(apart, (5, 2), (1, 2))]
[[((0, 1), (1,)), ((2, 0), (0, 2))], (0, 1, 1, 2)]
"""

BEHIND_48 = """
>>> from neverheaps.book import Book
>>> from neverheaps.desk import Desk
>>> works = (("a", "b"), ("h",), (((1, 0), (0, 0), "h"), ((0, 1), (0, 0), "h")))
>>> book = Book(works)
>>> [book.send("s", (1, ((0, 0, (1, 0), (1,)),))), book.owe(("hold", "s")), book.owe(("rooms", "s", (0, 0)))]
[None, None, None]
>>> [book.take(1), book.works()[2], book.held(), book.is_kept(("factor", "s", (1, 2)))]
[((0, 1), (0, 0), 'h'), (((1, 0), (0, 0), 'h'),), ['s'], False]
>>> desk = Desk("kinds a b\\nhands h\\nrecipe 1 a to by h")
>>> [desk.execute("send s = places 1 ; arrow 0 0 1 a with 1 h"), desk.execute("owe hold s"), desk.execute("take 0")]
[['done'], ['done'], ['refused Broken']]
>>> [desk.execute("add recipe 1 b to"), desk.execute("works"), desk.execute("duties")]
[['done'], ['kinds a b', 'hands h', 'recipe 1 a to by h', 'recipe 1 b to'], ['hold s']]
"""


class ExamplesTest(unittest.TestCase):

    def check(self, text):
        test = doctest.DocTestParser().get_doctest(text, {}, "example", None, 0)
        told = []
        found = doctest.DocTestRunner(verbose=False).run(test, out=told.append)
        self.assertGreater(found.attempted, 5)
        self.assertEqual(found.failed, 0, "".join(told))

    def test_behind_15(self):
        self.check(BEHIND_15)

    def test_behind_19(self):
        self.check(BEHIND_19)

    def test_behind_22(self):
        self.check(BEHIND_22)

    def test_behind_26(self):
        self.check(BEHIND_26)

    def test_behind_29(self):
        self.check(BEHIND_29)

    def test_behind_35(self):
        self.check(BEHIND_35)

    def test_behind_38(self):
        self.check(BEHIND_38)

    def test_behind_41(self):
        self.check(BEHIND_41)

    def test_behind_44(self):
        self.check(BEHIND_44)

    def test_behind_46(self):
        self.check(BEHIND_46)

    def test_behind_48(self):
        self.check(BEHIND_48)

    def test_readme(self):
        self.check(README.read_text())


if __name__ == "__main__":
    unittest.main()
