"""[30], the head of "Stage 6", and [10]: positions, safe ones, and tables."""

import unittest

from neverheaps.ahead import keeps_ahead, least_ahead
from neverheaps.ends import Box, ends_of, numbers_in
from neverheaps.errors import TooMany
from neverheaps.forms import is_play
from neverheaps.hindsight import breaking_run, heaps_in
from neverheaps.leastplay import least_break, lowest_play
from neverheaps.play import keeps_rooms
from neverheaps.tables import are_enough, is_table, safe_positions, table_for, table_play
from neverheaps.trees import is_tree, tree_against
from tests import slow
from tests.samples import BARE, FULL, any_values, asked, otherwise, random_run, random_works, seeded

ONE = (("a",), ("h",), (((1,), (0,), "h"),))
TURN = (2, ((0, 1, (0,), (1,)), (1, 0, (1,), (0,))))
# The works and the sender of the document's example: a goes out with b or with c.
CHOICE = (("a", "b", "c"), (), (((1, 1, 0), (0, 0, 0), None), ((1, 0, 1), (0, 0, 0), None)))
LATER = (3, ((0, 1, (1, 1, 1), ()), (1, 2, (0, 1, 0), ()), (1, 2, (0, 0, 1), ())))
# As much as may be, and such that rooms are often enough.
GREAT = (
    ("a", "b", "c", "d", "e"),
    ("h", "j", "k"),
    (
        ((2, 0, 0, 0, 0), (0, 1, 0, 0, 0), "h"),
        ((0, 1, 0, 0, 0), (0, 0, 0, 2, 0), "j"),
        ((0, 0, 1, 0, 0), (0, 0, 0, 0, 1), None),
        ((1, 0, 0, 1, 0), (0, 0, 0, 0, 1), "k"),
        ((0, 0, 0, 0, 1), (0, 0, 0, 0, 0), "k"),
        ((0, 0, 0, 2, 0), (0, 0, 0, 0, 0), "h"),
        ((0, 0, 0, 0, 2), (0, 0, 0, 0, 0), "j"),
        ((1, 1, 1, 1, 1), (0, 0, 0, 0, 0), None),
    ),
)


def great_sender(rng):
    """A sender of GREAT with ten places and 24 arrows."""
    arrows = []
    for at in range(24):
        target, amounts = rng.randrange(10), tuple(rng.choice((0, 0, 0, 1)) for _ in range(5))
        arrows.append((at % 10, target, amounts, tuple(rng.choice((1, 2, 3)) for _ in range(3))))
    return 10, tuple(arrows)


def random_case(rng):
    """A works, a sender and rooms that are small enough to be gone through slowly."""
    works = random_works(rng, kinds=rng.randint(1, 3), recipes=rng.randint(0, 5), most=rng.choice((1, 2, 3)))
    places = rng.randint(1, 4)
    arrows = []
    for _ in range(rng.randint(0, 6)):
        amounts = tuple(rng.choice((0, 0, 1, 2)) for _ in works[0])
        arrows.append((rng.randrange(places), rng.randrange(places), amounts, tuple(rng.choice((0, 1, 1, 2)) for _ in works[1])))
    rooms = tuple(rng.randint(0, 4 if len(works[0]) < 3 else 2) for _ in works[0])
    return works, (places, tuple(arrows)), rooms


def choice_case(rng):
    """A works, a sender and rooms such that what is best depends on what comes later."""
    recipes = (((1, 1, 0), (0, 0, 0), rng.choice((None, None, "h"))), ((1, 0, 1), (0, 0, 0), None))
    delay = rng.randint(0, 3)
    arrows = [(0, 1, (1, 1, 1), (1,))] + [(at, at + 1, (0, 0, 0), (rng.randint(0, 1),)) for at in range(1, delay + 1)]
    arrows += [(delay + 1, rng.choice((0, delay + 2)), (0, 1, 0), (1,)), (delay + 1, rng.choice((0, delay + 2)), (0, 0, 1), (1,))]
    if rng.random() < 0.3:
        arrows.append((rng.randrange(delay + 3), rng.randrange(delay + 3), (0, 0, rng.randint(0, 1)), (1,)))
    rng.shuffle(arrows)
    return (("a", "b", "c"), ("h",), recipes), (delay + 3, tuple(arrows)), rng.choice(((0, 1, 1), (0, 1, 1), (0, 1, 2), (1, 1, 1)))


class TooManyTest(unittest.TestCase):
    """What each function that takes rooms raises, ahead of all else."""

    def check(self, works, sender, rooms, most):
        """All of them raise TooMany(most), or none raises it if most is None; whatever else they take."""
        calls = [(safe_positions,), (table_for,), (are_enough,), (tree_against,), (breaking_run,), (least_break,), (least_ahead,),
                 (keeps_ahead, 0), (keeps_ahead, 3), (heaps_in, ()), (lowest_play, ()), (is_table, {}), (is_table, None),
                 (is_tree, {}), (is_tree, 1)]
        for function, *more in calls:
            told = asked(self, function, works, sender, rooms, *more)
            self.assertEqual(told == (TooMany, {"most": most}), most is not None, (function, told))

    def test_positions(self):
        self.check(BARE, (1, ()), (2999,), None)
        self.check(BARE, (1, ()), (3000,), 3000)
        self.check(BARE, (10, ()), (299,), None)
        self.check(BARE, (10, ()), (300,), 3000)
        self.check(FULL, (1, ()), (9, 9, 9, 2, 0), None)
        self.check(FULL, (1, ()), (9, 9, 9, 2, 1), 3000)
        self.check(FULL, (2, ()), (9, 9, 9, 2, 0), 3000)
        self.check(BARE, (1, ()), (10 ** 9,), 3000)
        # Places count that are not come to.
        self.check(BARE, (3001, ()), (0,), 3000)
        self.check(BARE, (3000, ()), (0,), None)

    def test_couples(self):
        # So many couples as ends: of each kind so many may go out as lie there.
        both = (("a", "b"), (), (((1, 0), (0, 0), None), ((0, 1), (0, 0), None)))
        self.check(both, (1, ((0, 0, (2, 9), ()),)), (0, 1657), 5000)
        self.check(both, (2, ((0, 0, (0, 0), ()), (1, 0, (9, 9), ()))), (0, 491), 5000)
        self.check(both, (2, ((0, 0, (0, 0), ()), (1, 0, (9, 9), ()))), (0, 490), None)
        self.check(both, (10, ((9, 0, (9, 9), ()),)), (0, 300), 3000)

    def test_couples_of_an_end_and_a_rest_of_the_crew(self):
        # From any 9 things, or fewer, by so many hands of two: each number of both is a couple.
        hands = (("a",), ("h", "k"), (((1,), (0,), "h"), ((1,), (0,), "k")))
        self.check(hands, (1, ((0, 0, (9,), (70, 70)),)), (140,), 5000)
        self.check(hands, (1, ((0, 0, (9,), (69, 70)),)), (131,), None)


class BoxTest(unittest.TestCase):

    def test_lots(self):
        for rooms in ((0,), (3,), (2, 0, 1), (1, 1, 1, 1, 1)):
            box = Box(rooms)
            self.assertEqual([box.members, [box.number(heaps) for heaps in box.members]],
                             [slow.box(rooms), list(range(len(box.members)))])
            for other in slow.box(tuple(room + 2 for room in rooms)):
                bound = tuple(item - 1 for item in other)
                above = [heaps for heaps in box.members if all(one >= least for one, least in zip(heaps, bound))]
                below = [heaps for heaps in box.members if all(one <= most for one, most in zip(heaps, bound))]
                self.assertEqual([box.members[number] for number in numbers_in(box.above(bound))], above)
                self.assertEqual([box.members[number] for number in numbers_in(box.below(bound))], below)


class TablesTest(unittest.TestCase):

    def check(self, works, sender, rooms, runs=()):
        """The table, or None; what is safe is right, and the table keeps the rooms."""
        safe = asked(self, safe_positions, works, sender, rooms)
        self.assertEqual(safe, slow.safe(works, sender, rooms))
        table, enough = asked(self, table_for, works, sender, rooms), asked(self, are_enough, works, sender, rooms)
        self.assertIs(enough, (0, (0,) * len(rooms)) in safe)
        self.assertIs(table is not None, enough)
        self.assertIs(tree_against(works, sender, rooms) is None, enough)
        if enough:
            self.assertEqual(list(table), safe)
            self.assertIs(asked(self, is_table, works, sender, rooms, table), True)
            for run in runs:
                play = asked(self, table_play, works, sender, table, run)
                self.assertTrue(is_play(works, sender, run, play) and keeps_rooms(works, sender, run, play, rooms))
        return table

    def test_the_example(self):
        table = {(0, (0,)): ((0, ()),), (0, (1,)): ((0, (0,)),), (1, (0,)): ((1, ()),)}
        self.assertEqual(self.check(ONE, TURN, (1,), [(), (0,), (0, 1) * 200]), table)
        self.assertEqual(table_play(ONE, TURN, table, (0, 1, 0)), [(), (), (0,)])
        self.assertIsNone(self.check(ONE, TURN, (0,)))
        self.assertEqual(safe_positions(ONE, TURN, (0,)), [])

    def test_places_that_are_not_come_to(self):
        sender = (4, TURN[1] + ((2, 0, (0,), (0,)), (2, 2, (2,), (1,)), (3, 0, (0,), (1,))))
        self.assertEqual(safe_positions(ONE, sender, (1,)), [(0, (0,)), (0, (1,)), (1, (0,)), (3, (0,)), (3, (1,))])
        self.check(ONE, sender, (1,), [(0, 1, 0, 1, 0)])

    def test_without_arrows_and_without_recipes(self):
        self.assertEqual(self.check(BARE, (1, ()), (2,), [()]), {(0, (0,)): (), (0, (1,)): (), (0, (2,)): ()})
        self.assertEqual(self.check(BARE, (2, ((0, 1, (1,), ()),)), (1,), [(0,)]),
                         {(0, (0,)): ((0, ()),), (1, (0,)): (), (1, (1,)): ()})
        self.assertIsNone(self.check(BARE, (1, ((0, 0, (1,), ()),)), (5,)))
        self.assertEqual(self.check(BARE, (1, ((0, 0, (0,), ()),)), (0,)), {(0, (0,)): ((0, ()),)})

    def test_what_lies_may_be_above_its_room_within_a_beat(self):
        works = (("a", "b"), (), (((2, 0), (0, 3), None), ((0, 3), (0, 0), None)))
        self.assertEqual(self.check(works, (1, ((0, 0, (4, 0), ()),)), (0, 0), [(0,) * 5]),
                         {(0, (0, 0)): ((0, asked(self, table_for, works, (1, ((0, 0, (4, 0), ()),)), (0, 0))[0, (0, 0)][0][1]),)})

    def test_many(self):
        rng = seeded(3001)
        seen = {True: 0, False: 0}
        for turn in range(200):
            works, sender, rooms = random_case(rng) if turn % 2 else choice_case(rng)
            runs = [random_run(rng, sender, 20) for _ in range(3)]
            seen[self.check(works, sender, rooms, runs) is None] += 1
        self.assertGreater(min(seen.values()), 30)

    def test_more_room_is_enough_too(self):
        rng = seeded(3002)
        many = 0
        for _ in range(150):
            works, sender, rooms = random_case(rng)
            if are_enough(works, sender, rooms):
                many += 1
                for kind in range(len(rooms)):
                    self.assertTrue(are_enough(works, sender, rooms[:kind] + (rooms[kind] + 1,) + rooms[kind + 1:]))
        self.assertGreater(many, 50)

    def test_up_to_the_bounds(self):
        rng = seeded(199)
        sender, rooms = great_sender(rng), (4, 1, 1, 4, 2)
        arrows = sender[1]
        self.assertEqual(len(slow.positions(sender, rooms)), 3000)
        table = asked(self, table_for, GREAT, sender, rooms)
        self.assertIs(is_table(GREAT, sender, rooms, table), True)
        self.assertEqual(list(table), safe_positions(GREAT, sender, rooms))
        run = [0]
        while len(run) < 400:
            run.append(rng.choice(slow.steps(sender, arrows[run[-1]][1])))
        play = table_play(GREAT, sender, table, tuple(run))
        self.assertTrue(is_play(GREAT, sender, tuple(run), play) and keeps_rooms(GREAT, sender, tuple(run), play, rooms))


class IsTableTest(unittest.TestCase):

    def setUp(self):
        self.table = {(0, (0,)): ((0, ()),), (0, (1,)): ((0, (0,)),), (1, (0,)): ((1, ()),)}

    def judge(self, thing, works=ONE, sender=TURN, rooms=(1,)):
        return asked(self, is_table, works, sender, rooms, thing)

    def test_keys_in_any_order_and_fewer_keys(self):
        self.assertIs(self.judge(dict(reversed(list(self.table.items())))), True)
        # The play needs no more than these positions, and not all of them.
        self.assertIs(self.judge({(0, (1,)): ((0, (0,)),), (1, (0,)): ((1, ()),)}), False)
        self.assertIs(self.judge({(0, (0,)): ((0, ()),), (1, (0,)): ((1, ()),)}), False)
        self.assertIs(self.judge({(0, (0,)): ((0, ()),), (0, (1,)): ((0, (0,)),)}), False)
        self.assertIs(self.judge({}), False)
        held = (2, ((0, 1, (0,), (1,)), (1, 0, (0,), (0,))))
        self.assertIs(self.judge({(1, (0,)): ((1, ()),), (0, (0,)): ((0, ()),)}, sender=held), True)
        self.assertIs(self.judge({(0, (0,)): ()}, BARE, (1, ()), (0,)), True)

    def test_deeds(self):
        wide = {(0, (0,)): ((0, ()),), (0, (1,)): ((0, ()),), (1, (0,)): ((1, ()),), (1, (1,)): ((1, ()),), (0, (2,)): ((0, (0,)),)}
        self.assertIs(self.judge(wide, rooms=(2,)), True)
        # Above the room, not a key, more than can be done, more than there are hands.
        self.assertIs(self.judge(wide), False)
        for deeds in ((), (0, 0), (1,), (-1,), (True,), [0], None, (False,)):
            self.table[0, (1,)] = ((0, deeds),)
            self.assertIs(self.judge(self.table), False)
        self.table[0, (1,)] = ((0, (0,)),)
        self.assertIs(self.judge(self.table), True)

    def test_parts(self):
        for parts in ((), ((0, (0,)), (0, (0,))), ((0, (0,)), (1, ())), ((1, (0,)),), ((0,),), ((0, (0,), 0),), [(0, (0,))], ([0, (0,)],),
                      (0, (0,)), None, ((False, (0,)),), ((None, (0,)),)):
            self.table[0, (1,)] = parts
            self.assertIs(self.judge(self.table), False)

    def test_several_arrows_of_a_place_stand_in_order(self):
        sender = (1, ((0, 0, (0,), (0,)), (0, 0, (1,), (1,))))
        self.assertIs(self.judge({(0, (0,)): ((0, ()), (1, (0,)))}, sender=sender), True)
        self.assertIs(self.judge({(0, (0,)): ((1, (0,)), (0, ()))}, sender=sender), False)
        self.assertIs(self.judge({(0, (0,)): ((0, ()),)}, sender=sender), False)
        self.assertIs(self.judge({(0, (0,)): ((0, ()), (1, (0,)), (1, (0,)))}, sender=sender), False)

    def test_keys_that_are_no_positions(self):
        for key in ((2, (0,)), (-1, (0,)), (0, (2,)), (0, (-1,)), (0, ()), (0, (0, 0)), (True, (0,)), (0, (True,)), (0, 0), (0,), 0, None,
                    "a", (0, (0,), 0), ((0, (0,)),), (None, (0,))):
            thing = dict(self.table)
            thing.pop((1, (0,)), None) if key == (True, (0,)) else None
            thing.pop((0, (1,)), None) if key == (0, (True,)) else None
            thing[key] = ((1, ()),) if key == (True, (0,)) else ((0, (0,)),)
            self.assertIs(self.judge(thing), False, key)

    def test_places_that_are_none(self):
        # From them no arrows go, so that nothing else would be wrong.
        for place in (-1, -2, 2, 3, 10 ** 39):
            thing = dict(self.table)
            thing[place, (0,)] = ()
            self.assertIs(self.judge(thing), False)

    def test_any_value(self):
        for thing in any_values() + [list(self.table.items()), tuple(self.table.items()), (self.table,)]:
            self.assertIs(is_table(ONE, TURN, (1,), thing), False)
        for key, parts in self.table.items():
            for other in otherwise(parts):
                changed = dict(self.table)
                changed[key] = other
                self.assertIs(is_table(ONE, TURN, (1,), changed), False, other)

    def test_one_part_otherwise_of_greater_tables(self):
        rng = seeded(3004)
        many = 0
        while many < 25:
            works, sender, rooms = random_case(rng)
            table = table_for(works, sender, rooms)
            if table is None or not any(table.values()):
                continue
            many += 1
            for key in rng.sample(list(table), min(4, len(table))):
                less = {other: parts for other, parts in table.items() if other != key}
                self.assertIs(self.judge(less, works, sender, rooms), slow_is_table(works, sender, rooms, less))
                for at, (index, deeds) in enumerate(table[key]):
                    for other in (deeds + (0,), deeds[:-1], deeds[::-1], (0,)):
                        changed = dict(table)
                        changed[key] = table[key][:at] + ((index, other),) + table[key][at + 1:]
                        self.assertIs(self.judge(changed, works, sender, rooms), slow_is_table(works, sender, rooms, changed))


def slow_is_table(works, sender, rooms, table):
    """Whether a dict from positions to tuples of indexes and tuples of deeds is a table."""
    if (0, (0,) * len(rooms)) not in table:
        return False
    for (place, heaps), parts in table.items():
        for index, deeds in parts:
            _, target, amounts, crew = sender[1][index]
            lying = [one + other for one, other in zip(heaps, amounts)]
            left = dict(zip(works[1], crew))
            for deed in deeds:
                if deed >= len(works[2]):
                    return False
                takes, puts, hand = works[2][deed]
                if any(one < taken for one, taken in zip(lying, takes)) or hand is not None and left[hand] == 0:
                    return False
                lying = [one - taken + put for one, taken, put in zip(lying, takes, puts)]
                if hand is not None:
                    left[hand] -= 1
            if (target, tuple(lying)) not in table:
                return False
    return True


class EndsTest(unittest.TestCase):

    def test_the_deeds_of_a_table_lead_to_ends(self):
        table = table_for(CHOICE, LATER, (1, 1, 1))
        for (place, heaps), parts in table.items():
            for index, deeds in parts:
                _, target, amounts, crew = LATER[1][index]
                lying = tuple(one + other for one, other in zip(heaps, amounts))
                ends = [end for end in ends_of(CHOICE, lying, crew) if (target, end) in table]
                self.assertTrue(ends)
        self.assertIsNone(table_for(CHOICE, LATER, (0, 1, 1)))


if __name__ == "__main__":
    unittest.main()
