"""[27]: runs cut into rounds of rings."""

import unittest

from neverheaps.cutting import cut, rounds_of
from neverheaps.forms import is_ring
from tests.samples import BARE, RINGS, asked, random_run, random_sender, seeded

TURN = (2, ((0, 1, (1,), (0,)), (1, 0, (0,), (1,)), (1, 1, (0,), (0,))))


def slow_cut(sender, run):
    """The rounds and the way, found anew for each arrow by the places that the path goes through."""
    path, rounds = [], []
    for at, index in enumerate(run):
        path.append(index)
        sources = [sender[1][passed][0] for passed in path]
        if sender[1][index][1] in sources:
            first = sources.index(sender[1][index][1])
            taken, path = path[first:], path[:first]
            turns = [tuple(taken[by:] + taken[:by]) for by in range(len(taken))]
            rounds.append((at, min(turns, key=lambda turn: sender[1][turn[0]][0])))
    return rounds, tuple(path)


class CuttingTest(unittest.TestCase):

    def test_the_example(self):
        run = (0, 2, 1, 0, 2, 2)
        self.assertEqual(asked(self, cut, TURN, run), ([(1, (2,)), (2, (0, 1)), (4, (2,)), (5, (2,))], (0,)))
        self.assertEqual(asked(self, rounds_of, TURN, run), [((0, 1), 1), ((2,), 3)])

    def test_the_empty_run(self):
        for sender in (TURN, RINGS, (1, ())):
            self.assertEqual(asked(self, cut, sender, ()), ([], ()))
            self.assertEqual(asked(self, rounds_of, sender, ()), [])

    def test_ways_back(self):
        # To the first place, to the last one, to one between, and nowhere.
        self.assertEqual(cut(RINGS, (0, 2, 3)), ([(2, (0, 2, 3))], ()))
        self.assertEqual(cut(RINGS, (0, 4)), ([(1, (4,))], (0,)))
        self.assertEqual(cut(RINGS, (0, 2, 7)), ([(2, (2, 7))], (0,)))
        self.assertEqual(cut(RINGS, (0, 2)), ([], (0, 2)))
        self.assertEqual(cut(RINGS, (0, 2, 7, 4, 2, 7, 1)), ([(2, (2, 7)), (3, (4,)), (5, (2, 7)), (6, (0, 1))], ()))
        self.assertEqual(rounds_of(RINGS, (0, 2, 7, 4, 2, 7, 1)), [((0, 1), 1), ((2, 7), 2), ((4,), 1)])

    def test_a_round_may_begin_at_another_place_than_its_ring(self):
        sender = (3, ((0, 2, (0,), ()), (2, 1, (0,), ()), (1, 2, (0,), ()), (2, 0, (0,), ()), (0, 0, (0,), ())))
        self.assertEqual(asked(self, cut, sender, (0, 1, 2, 3)), ([(2, (2, 1)), (3, (0, 3))], ()))
        self.assertEqual(asked(self, cut, sender, (4, 0, 1, 2, 1, 2)), ([(0, (4,)), (3, (2, 1)), (5, (2, 1))], (0,)))

    def test_many_runs(self):
        rng = seeded(2701)
        for turn in range(300):
            sender = random_sender(rng, BARE, rng.randint(1, 7), 14)
            run = random_run(rng, sender, 60)
            rounds, way = asked(self, cut, sender, run)
            self.assertEqual((rounds, way), slow_cut(sender, run), turn)
            self.assertTrue(all(is_ring(sender, ring) for _, ring in rounds))
            # Nothing is lost: each arrow is in a round or in the way.
            arrows = sorted([index for _, ring in rounds for index in ring] + list(way))
            self.assertEqual(arrows, sorted(run))
            rings = [ring for _, ring in rounds]
            self.assertEqual(rounds_of(sender, run), [(ring, rings.count(ring)) for ring in sorted(set(rings))])

    def test_up_to_the_bounds(self):
        sender = (10, tuple((place, (place + 1) % 10, (0,), ()) for place in range(10)))
        run = tuple(range(10)) * 40
        self.assertEqual(rounds_of(sender, run), [(tuple(range(10)), 40)])
        self.assertEqual(cut(sender, run[:395])[1], (0, 1, 2, 3, 4))


if __name__ == "__main__":
    unittest.main()
