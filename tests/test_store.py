"""[16]: a works in which beats are done, taken back and done again."""

import unittest

from neverheaps.errors import CannotBeDone, Nothing, Wrong
from neverheaps.store import Heaps
from tests.samples import BARE, FULL, WORDY, WORKS, any_values, seeded

FIRST = ((2, 0, 0), (1,), (0,))
SECOND = ((0, 0, 1), (0,), (1,))
THIRD = ((1, 1, 1), (5,), ())


def state(store):
    return store.heaps(), store.beats(), store.log()


class StoreTest(unittest.TestCase):

    def nothing(self, call):
        with self.assertRaises(Nothing):
            call()

    def test_a_new_one_is_empty(self):
        for works in (WORKS, BARE, FULL, WORDY):
            store = Heaps(works)
            self.assertEqual(state(store), ((0,) * len(works[0]), 0, []))
            self.nothing(store.back)
            self.nothing(store.again)
            self.assertEqual(state(store), ((0,) * len(works[0]), 0, []))

    def test_wrong(self):
        for value in any_values() + [WORKS + (0,), WORKS[:2], [*WORKS], (("a",), ("a",), ())]:
            if value not in (WORKS, (("a",), ("h",), ())):
                with self.assertRaises(Wrong) as caught:
                    Heaps(value)
                self.assertEqual(caught.exception.place, 0)

    def test_beats(self):
        store = Heaps(WORKS)
        self.assertIsNone(store.beat(*FIRST))
        self.assertEqual(state(store), ((0, 1, 0), 1, [FIRST]))
        self.assertIsNone(store.beat(*SECOND))
        self.assertEqual(state(store), ((0, 0, 0), 2, [FIRST, SECOND]))
        store.beat(*THIRD)
        self.assertEqual(state(store), ((1, 1, 1), 3, [FIRST, SECOND, THIRD]))
        bare = Heaps(BARE)
        bare.beat((3,), (), ())
        self.assertEqual(state(bare), ((3,), 1, [((3,), (), ())]))

    def test_a_beat_that_cannot_be_done_changes_nothing(self):
        store = Heaps(WORKS)
        store.beat(*FIRST)
        store.beat(*SECOND)
        store.back()
        cases = [
            (0, (1, 0, 0), (1,), (0,)), (0, (2, 0, 0), (0,), (0,)), (1, (4, 0, 0), (1,), (0, 0)), (1, (0, 0, 1), (0,), (1, 1)),
            (2, (2, 0, 1), (1,), (0, 1, 0)), (3, (2, 0, 2), (9,), (1, 0, 1, 1)),
        ]
        for index, amounts, crew, deeds in cases:
            with self.assertRaises(CannotBeDone) as caught:
                store.beat(amounts, crew, deeds)
            self.assertEqual(caught.exception.index, index)
            self.assertEqual(state(store), ((0, 1, 0), 1, [FIRST]))
        # What was taken back can still be done again.
        self.assertIsNone(store.again())
        self.assertEqual(state(store), ((0, 0, 0), 2, [FIRST, SECOND]))

    def test_back_and_again(self):
        store = Heaps(WORKS)
        for beat in (FIRST, SECOND, THIRD):
            store.beat(*beat)
        self.assertIsNone(store.back())
        self.assertEqual(state(store), ((0, 0, 0), 2, [FIRST, SECOND]))
        store.back()
        self.assertEqual(state(store), ((0, 1, 0), 1, [FIRST]))
        self.assertIsNone(store.again())
        self.assertEqual(state(store), ((0, 0, 0), 2, [FIRST, SECOND]))
        store.back()
        store.back()
        self.assertEqual(state(store), ((0, 0, 0), 0, []))
        self.nothing(store.back)
        for _ in range(3):
            store.again()
        self.assertEqual(state(store), ((1, 1, 1), 3, [FIRST, SECOND, THIRD]))
        self.nothing(store.again)
        self.assertEqual(state(store), ((1, 1, 1), 3, [FIRST, SECOND, THIRD]))

    def test_another_beat_ends_again(self):
        store = Heaps(WORKS)
        store.beat(*FIRST)
        store.beat(*SECOND)
        store.back()
        store.beat(*THIRD)
        self.nothing(store.again)
        self.assertEqual(state(store), ((1, 2, 1), 2, [FIRST, THIRD]))
        store.back()
        store.again()
        self.assertEqual(state(store), ((1, 2, 1), 2, [FIRST, THIRD]))
        # The very same beat is another one, too.
        store.back()
        store.beat(*THIRD)
        self.nothing(store.again)

    def test_again_does_not_end_again(self):
        store = Heaps(WORKS)
        for beat in (FIRST, SECOND, THIRD):
            store.beat(*beat)
        store.back()
        store.back()
        store.again()
        store.again()
        self.assertEqual(store.log(), [FIRST, SECOND, THIRD])

    def test_a_twin_goes_on_by_itself(self):
        store = Heaps(WORKS)
        store.beat(*FIRST)
        store.beat(*SECOND)
        store.beat(*THIRD)
        store.back()
        twin = store.twin()
        self.assertIsInstance(twin, Heaps)
        self.assertEqual(state(twin), state(store))
        twin.again()
        self.assertEqual((twin.beats(), store.beats()), (3, 2))
        twin.back()
        twin.back()
        twin.back()
        self.assertEqual(state(twin), ((0, 0, 0), 0, []))
        self.assertEqual(state(store), ((0, 0, 0), 2, [FIRST, SECOND]))
        store.again()
        self.assertEqual(state(store), ((1, 1, 1), 3, [FIRST, SECOND, THIRD]))
        twin.beat(*THIRD)
        self.nothing(twin.again)
        self.assertEqual((twin.log(), store.log()), ([THIRD], [FIRST, SECOND, THIRD]))
        store.back()
        other = store.twin()
        store.beat(*FIRST)
        other.again()
        self.assertEqual(other.log(), [FIRST, SECOND, THIRD])
        self.nothing(store.again)

    def test_what_is_told_is_new(self):
        store = Heaps(WORKS)
        store.beat(*FIRST)
        told = store.log()
        told.append(SECOND)
        store.log().clear()
        self.assertEqual(store.log(), [FIRST])
        self.assertIsNot(store.log(), store.log())
        store.beat(*SECOND)
        self.assertEqual(told, [FIRST, SECOND])

    def test_many_calls(self):
        rng = seeded(19)
        store, stands, gone = Heaps(WORKS), [], []
        for _ in range(2000):
            call = rng.choice(("beat", "beat", "back", "again"))
            if call == "beat":
                beat = rng.choice((FIRST, THIRD, ((0, 0, 0), (0,), ())))
                store.beat(*beat)
                stands, gone = stands + [beat], []
            elif call == "back" and stands:
                store.back()
                gone.append(stands.pop())
            elif call == "again" and gone:
                store.again()
                stands.append(gone.pop())
            else:
                self.nothing(store.back if call == "back" else store.again)
            self.assertEqual((store.log(), store.beats()), (stands, len(stands)))
            firsts, thirds = stands.count(FIRST), stands.count(THIRD)
            self.assertEqual(store.heaps(), (thirds, firsts + thirds, thirds))


if __name__ == "__main__":
    unittest.main()
