"""[17]: deeds done one after the other, and plays of runs."""

import copy
import unittest

from neverheaps.errors import CannotBeDone
from neverheaps.forms import is_play
from neverheaps.play import after, can_do, keeps_rooms, played, sums_of
from tests.samples import BARE, FULL, RINGS, SENDER, WORKS, random_run, random_sender, random_works, seeded

RUN = (0, 1, 0)
PLAY = [(0,), (1,), (0,)]


def slow_after(works, heaps, crew, deeds):
    """The heaps behind the deeds, or the index of the first one that cannot be done."""
    lying, hands = list(heaps), dict(zip(works[1], crew))
    for index, deed in enumerate(deeds):
        takes, puts, hand = works[2][deed]
        if any(has < need for has, need in zip(lying, takes)) or (hand and hands[hand] < 1):
            return index
        for kind in range(len(lying)):
            lying[kind] += puts[kind] - takes[kind]
        if hand:
            hands[hand] -= 1
    return tuple(lying)


def random_play(rng, works, sender, run):
    """A play of the run, in which deeds are done by chance."""
    heaps, play = (0,) * len(works[0]), []
    for index in run:
        heaps = tuple(a + b for a, b in zip(heaps, sender[1][index][2]))
        deeds = ()
        for _ in range(rng.randint(0, 6)):
            if works[2]:
                more = deeds + (rng.randrange(len(works[2])),)
                if can_do(works, heaps, sender[1][index][3], more):
                    deeds = more
        heaps = after(works, heaps, sender[1][index][3], deeds)
        play.append(deeds)
    return play


class PlayTest(unittest.TestCase):

    def cannot(self, index, works, heaps, crew, deeds):
        with self.assertRaises(CannotBeDone) as caught:
            after(works, heaps, crew, deeds)
        self.assertEqual(caught.exception.index, index)
        self.assertIs(can_do(works, heaps, crew, deeds), False)

    def test_after(self):
        self.assertEqual(after(WORKS, (2, 0, 1), (1,), (0, 1)), (0, 0, 0))
        self.assertEqual(after(WORKS, (2, 0, 1), (1,), (0,)), (0, 1, 1))
        self.assertEqual(after(WORKS, (2, 0, 1), (1,), ()), (2, 0, 1))
        self.assertEqual(after(WORKS, (10 ** 9, 0, 0), (2,), (0, 0)), (10 ** 9 - 4, 2, 0))
        self.assertEqual(after(BARE, (3,), (), ()), (3,))
        self.assertIs(can_do(WORKS, (2, 0, 1), (1,), (0, 1)), True)
        self.assertIs(can_do(WORKS, (0, 0, 0), (0,), ()), True)

    def test_deeds_that_cannot_be_done(self):
        self.cannot(0, WORKS, (1, 0, 0), (1,), (0,))
        self.cannot(0, WORKS, (2, 0, 1), (1,), (1, 0))
        self.cannot(1, WORKS, (4, 0, 1), (1,), (0, 0))
        self.cannot(1, WORKS, (3, 0, 1), (2,), (0, 0, 0))
        self.cannot(0, WORKS, (2, 0, 0), (0,), (0, 0))
        self.cannot(2, WORKS, (2, 0, 1), (1,), (0, 1, 1))
        self.cannot(1, WORKS, (0, 2, 1), (9,), (1, 1))

    def test_each_hand_is_counted_by_itself(self):
        heaps = (9, 9, 9, 9, 9)
        self.assertIs(can_do(FULL, heaps, (1, 1, 2), (0, 1, 3, 4)), True)
        self.cannot(3, FULL, heaps, (1, 1, 1), (0, 1, 3, 4))
        self.cannot(1, FULL, heaps, (1, 5, 5), (0, 5))
        self.cannot(0, FULL, heaps, (9, 0, 9), (1,))

    def test_heaps_are_taken_from_before_puts_are_added(self):
        # What a deed puts does not serve for itself.
        works = (("a", "b"), (), (((1, 1), (0, 0), None), ((1, 0), (0, 2), None)))
        self.cannot(0, works, (2, 0), (), (0, 1))
        self.assertEqual(after(works, (2, 0), (), (1, 0)), (0, 1))

    def test_deeds_of_many_works(self):
        rng = seeded(17)
        for _ in range(500):
            works = random_works(rng, recipes=rng.randint(1, 8), most=2)
            heaps = tuple(rng.randint(0, 9) for _ in works[0])
            crew = tuple(rng.randint(0, 3) for _ in works[1])
            deeds = tuple(rng.randrange(len(works[2])) for _ in range(rng.randint(0, 6)))
            before = copy.deepcopy((works, heaps, crew, deeds))
            told = slow_after(works, heaps, crew, deeds)
            if isinstance(told, int):
                self.cannot(told, works, heaps, crew, deeds)
            else:
                self.assertEqual(after(works, heaps, crew, deeds), told)
                self.assertIs(can_do(works, heaps, crew, deeds), True)
            self.assertEqual((works, heaps, crew, deeds), before)

    def test_played(self):
        self.assertEqual(played(WORKS, SENDER, RUN, PLAY), [(0, 1, 0), (0, 0, 0), (0, 1, 0)])
        self.assertEqual(played(WORKS, SENDER, RUN, [(), (), (0,)]), [(2, 0, 0), (2, 0, 1), (2, 1, 1)])
        self.assertEqual(played(WORKS, SENDER, (), []), [])
        found = played(WORKS, SENDER, RUN, PLAY)
        found.clear()
        self.assertEqual(len(played(WORKS, SENDER, RUN, PLAY)), 3)

    def test_rooms_just_enough_and_one_less(self):
        play = [(), (), (0,)]
        self.assertIs(keeps_rooms(WORKS, SENDER, RUN, play, (2, 1, 1)), True)
        self.assertIs(keeps_rooms(WORKS, SENDER, RUN, play, (9, 9, 9)), True)
        for rooms in ((1, 1, 1), (2, 0, 1), (2, 1, 0), (0, 0, 0)):
            self.assertIs(keeps_rooms(WORKS, SENDER, RUN, play, rooms), False)
        self.assertIs(keeps_rooms(WORKS, SENDER, (), [], (0, 0, 0)), True)

    def test_rooms_are_asked_behind_each_beat_only(self):
        # Ahead of the deeds there are two; behind the first beat there is more than behind the last one.
        self.assertIs(keeps_rooms(WORKS, SENDER, RUN, PLAY, (0, 1, 0)), True)
        self.assertIs(keeps_rooms(WORKS, SENDER, (0, 1), PLAY[:2], (0, 0, 0)), False)
        self.assertIs(keeps_rooms(WORKS, SENDER, (0, 1), PLAY[:2], (0, 1, 0)), True)

    def test_sums(self):
        self.assertEqual(sums_of(WORKS, SENDER, RUN, PLAY), ((4, 0, 1), (2,), (2, 1)))
        self.assertEqual(sums_of(WORKS, SENDER, (), []), ((0, 0, 0), (0,), (0, 0)))
        self.assertEqual(sums_of(WORKS, RINGS, (0, 2, 7), [(), (), (1,) * 0]), ((1, 9, 0), (11,), (0, 0)))
        self.assertEqual(sums_of(BARE, (1, ((0, 0, (3,), ()),)), (0, 0), [(), ()]), ((6,), (), ()))

    def test_plays_of_many_works(self):
        rng = seeded(18)
        for _ in range(200):
            works = random_works(rng, most=2)
            sender = random_sender(rng, works)
            run = random_run(rng, sender, 30)
            play = random_play(rng, works, sender, run)
            before = copy.deepcopy((works, sender, run, play))
            self.assertTrue(is_play(works, sender, run, play))
            heaps = played(works, sender, run, play)
            amounts, crew, counts = sums_of(works, sender, run, play)
            self.assertEqual(counts, tuple(sum(deeds.count(index) for deeds in play) for index in range(len(works[2]))))
            self.assertEqual(crew, tuple(sum(sender[1][at][3][hand] for at in run) for hand in range(len(works[1]))))
            for kind in range(len(works[0])):
                self.assertEqual(amounts[kind], sum(sender[1][at][2][kind] for at in run))
                used = sum(many * (takes[kind] - puts[kind]) for many, (takes, puts, _) in zip(counts, works[2]))
                self.assertEqual(heaps[-1][kind] if heaps else 0, amounts[kind] - used)
            rooms = tuple(max([0] + [lying[kind] for lying in heaps]) for kind in range(len(works[0])))
            self.assertIs(keeps_rooms(works, sender, run, play, rooms), True)
            for kind, room in enumerate(rooms):
                if room:
                    less = rooms[:kind] + (room - 1,) + rooms[kind + 1:]
                    self.assertIs(keeps_rooms(works, sender, run, play, less), False)
            self.assertEqual((works, sender, run, play), before)

    def test_long_runs(self):
        run = (0, 1) * 200
        play = [(0,), (1,)] * 200
        self.assertEqual(played(WORKS, SENDER, run, play)[-1], (0, 0, 0))
        self.assertEqual(sums_of(WORKS, SENDER, run, play), ((400, 0, 200), (200,), (200, 200)))


if __name__ == "__main__":
    unittest.main()
