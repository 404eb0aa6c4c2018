"""[21], and [5] and [6] as far as they speak of books: tariffs that are fair, and books of them."""

import copy
import itertools
import math
import unittest

from neverheaps.spans import shares_for
from neverheaps.tariffs import book_of, is_book, is_fair, pay, worth
from neverheaps.ways import can_work_off
from tests.samples import BARE, FULL, WORKS, any_values, otherwise, random_works, seeded

# The works of the document's example, and its book.
EXAMPLE = (("a", "b"), ("h",), (((1, 0), (0, 0), "h"), ((1, 1), (0, 0), None)))
BOOK = [((-1, 1), (0,)), ((0, -1), (0,)), ((1, -1), (1,))]


def slow_is_fair(works, prices, wages):
    """Whether no recipe takes more than it puts and its hand is paid."""
    price, wage = dict(zip(works[0], prices)), dict(zip(works[1], wages))
    for takes, puts, hand in works[2]:
        taken = sum(many * price[kind] for kind, many in zip(works[0], takes))
        put = sum(many * price[kind] for kind, many in zip(works[0], puts))
        if taken > put + (wage[hand] if hand else 0):
            return False
    return True


def row_of(tariff):
    return tariff[0] + tariff[1]


def multiple(tariff, times):
    return tuple(tuple(times * item for item in part) for part in tariff)


def total(one, other):
    return tuple(tuple(a + b for a, b in zip(left, right)) for left, right in zip(one, other))


def has_lines(works):
    """Whether some prices but zeros have the worth 0 for the takes less the puts of each recipe."""
    columns = [tuple(t - p for t, p in zip(takes, puts)) for takes, puts, _ in works[2]]
    both = tuple(columns + [tuple(-item for item in column) for column in columns])
    axes = [tuple(int(at == other) for other in range(len(works[0]))) for at in range(len(works[0]))]
    return any(shares_for(both, axis) is None for axis in axes)


class TariffsTest(unittest.TestCase):

    def check_book(self, works):
        """All that can be told of a book without a search; the book."""
        before = copy.deepcopy(works)
        book = book_of(works)
        self.assertEqual(works, before)
        self.assertIsInstance(book, list)
        self.assertEqual(book, sorted(set(book)))
        self.assertTrue(book)
        for tariff in book:
            prices, wages = tariff
            self.assertEqual((type(tariff), type(prices), type(wages)), (tuple,) * 3)
            self.assertEqual((len(prices), len(wages)), (len(works[0]), len(works[1])))
            self.assertTrue(all(wage >= 0 for wage in wages))
            self.assertTrue(slow_is_fair(works, prices, wages), (works, tariff))
            self.assertEqual(math.gcd(*prices, *wages), 1)
        return book

    def test_worth_and_pay(self):
        self.assertEqual([worth(((1, -1), (1,)), (3, 1)), pay(((1, -1), (1,)), (2,))], [2, 2])
        self.assertEqual(worth(((2, -3, 5), (7,)), (1, 1, 1)), 4)
        self.assertEqual(worth(((2, -3, 5), (7,)), (0, 2, 0)), -6)
        self.assertEqual(pay(((0,), (2, 3, 5)), (1, 10, 100)), 532)
        self.assertEqual((worth(((4,), ()), (3,)), pay(((4,), ()), ())), (12, 0))
        self.assertEqual(worth(((10 ** 9, -(10 ** 9)), ()), (10 ** 9, 1)), 10 ** 18 - 10 ** 9)

    def test_is_fair(self):
        for tariff in BOOK + [((0, 0), (1,)), ((1, -1), (9,)), ((-5, 4), (0,)), ((-5, -5), (0,))]:
            self.assertIs(is_fair(EXAMPLE, tariff), True, tariff)
        for tariff in (((1, -1), (0,)), ((1, 0), (1,)), ((-1, 2), (0,)), ((2, -2), (1,)), ((0, 1), (9,))):
            self.assertIs(is_fair(EXAMPLE, tariff), False, tariff)
        self.assertIs(is_fair(BARE, ((7,), ())), True)
        # A recipe that puts more worth than it takes is fair without a hand's wage, and only then.
        self.assertIs(is_fair(WORKS, ((1, 2, -2), (0,))), True)
        self.assertIs(is_fair(WORKS, ((1, 1, -1), (0,))), False)
        self.assertIs(is_fair(WORKS, ((1, 1, -1), (1,))), True)
        self.assertIs(is_fair(WORKS, ((1, 1, 0), (1,))), False)

    def test_each_recipe_is_paid_by_its_own_hand(self):
        works = (("a",), ("h", "j"), (((1,), (0,), "h"), ((2,), (0,), "j")))
        self.assertIs(is_fair(works, ((1,), (1, 2))), True)
        self.assertIs(is_fair(works, ((1,), (2, 1))), False)
        self.assertIs(is_fair(works, ((1,), (0, 9))), False)

    def test_fair_tariffs_of_many_works(self):
        rng, told = seeded(40), {True: 0, False: 0}
        for _ in range(1500):
            works = random_works(rng, recipes=rng.randint(0, 3), most=2)
            tariff = tuple(rng.randint(-4, 3) for _ in works[0]), tuple(rng.randint(0, 4) for _ in works[1])
            fair = is_fair(works, tariff)
            self.assertIs(fair, slow_is_fair(works, *tariff))
            told[fair] += 1
        self.assertGreater(min(told.values()), 300)

    def test_books(self):
        self.assertEqual(self.check_book(EXAMPLE), BOOK)
        self.assertEqual(self.check_book((("a",), ("h",), (((1,), (0,), "h"),))), [((-1,), (0,)), ((1,), (1,))])
        self.assertEqual(self.check_book((("a",), (), (((3,), (0,), None),))), [((-1,), ())])
        self.assertEqual(self.check_book((("a",), ("h",), (((3,), (0,), "h"),))), [((-1,), (0,)), ((1,), (3,))])
        unwanted = (("a",), ("h", "j"), (((1,), (0,), "j"),))
        self.assertEqual(self.check_book(unwanted), [((-1,), (0, 0)), ((0,), (1, 0)), ((1,), (0, 1))])
        doubled = (EXAMPLE[0], EXAMPLE[1], EXAMPLE[2] * 3)
        self.assertEqual(self.check_book(doubled), BOOK)

    def test_books_with_lines(self):
        self.assertEqual(self.check_book(BARE), [((-1,), ()), ((1,), ())])
        self.assertEqual(self.check_book((("a",), ("h",), ())), [((-1,), (0,)), ((0,), (1,)), ((1,), (0,))])
        turned = (("a", "b"), (), (((1, 0), (0, 1), None),))
        book = self.check_book(turned)
        self.assertEqual(len(book), 3)
        for prices in ((-1, 0), (0, 1), (1, 1), (-1, -1), (-2, 5), (3, 3)):
            self.assertIsNotNone(shares_for(tuple(map(row_of, book)), prices))

    def test_books_of_many_works(self):
        rng, seen = seeded(41), 0
        for _ in range(120):
            works = random_works(rng, kinds=rng.randint(1, 3), hands=rng.randint(0, 1), recipes=rng.randint(0, 5), most=2)
            book = self.check_book(works)
            rows = tuple(map(row_of, book))
            for row in rows:
                self.assertIsNone(shares_for(tuple(other for other in rows if other != row), row), (works, row))
            for prices in itertools.product(range(-2, 3), repeat=len(works[0])):
                for wages in itertools.product(range(4), repeat=len(works[1])):
                    if slow_is_fair(works, prices, wages):
                        seen += 1
                        self.assertIsNotNone(shares_for(rows, prices + wages), (works, prices, wages))
        self.assertGreater(seen, 2000)

    def test_books_of_great_works(self):
        rng = seeded(42)
        for at in range(40):
            works = FULL if at == 0 else random_works(rng, kinds=5, hands=3, recipes=8)
            book = self.check_book(works)
            rows = tuple(map(row_of, book))
            for row in rng.sample(rows, 5) if len(rows) > 5 else rows:
                self.assertIsNone(shares_for(tuple(other for other in rows if other != row), row))
            self.assertIs(is_book(works, book), True)

    def test_a_book_tells_what_gains(self):
        # [5], [6]: something gains by a fair tariff exactly if it does by one of the book, and if it is not worked off.
        rng, told = seeded(43), {True: 0, False: 0}
        for _ in range(600):
            works = random_works(rng)
            amounts = tuple(rng.choice((0, 0, rng.randint(0, 9))) for _ in works[0])
            crew = tuple(rng.randint(0, 9) for _ in works[1])
            gains = any(worth(tariff, amounts) > pay(tariff, crew) for tariff in book_of(works))
            self.assertEqual(gains, can_work_off(works, amounts, crew) is None)
            told[gains] += 1
        self.assertGreater(min(told.values()), 100)

    def test_is_book(self):
        for order in itertools.permutations(BOOK):
            self.assertIs(is_book(EXAMPLE, list(order)), True)
        for tariff in BOOK:
            self.assertIs(is_book(EXAMPLE, BOOK + [tariff]), True)
            self.assertIs(is_book(EXAMPLE, [other for other in BOOK if other != tariff]), False)
        self.assertIs(is_book(EXAMPLE, [multiple(tariff, 7) for tariff in BOOK]), True)
        self.assertIs(is_book(EXAMPLE, BOOK + [((0, 0), (1,)), ((-3, 1), (2,))]), True)
        self.assertIs(is_book(EXAMPLE, BOOK[:2] + [((0, 0), (1,))]), False)
        self.assertIs(is_book(EXAMPLE, BOOK + [((1, -1), (0,))]), False)
        self.assertIs(is_book(EXAMPLE, BOOK + [((0, 0), (0,))]), False)
        self.assertIs(is_book(EXAMPLE, BOOK + [((0, 0), (-1,))]), False)
        self.assertIs(is_book(EXAMPLE, []), False)
        self.assertIs(is_book(EXAMPLE, tuple(BOOK)), False)
        self.assertIs(is_book(EXAMPLE, {0: BOOK}), False)

    def test_is_book_with_other_lines(self):
        turned = (("a", "b"), (), (((1, 0), (0, 1), None),))
        self.assertIs(is_book(turned, [((1, 1), ()), ((-1, -1), ()), ((0, 1), ())]), True)
        self.assertIs(is_book(turned, [((2, 3), ()), ((-1, -1), ())]), False)
        self.assertIs(is_book(turned, [((-1, 1), ()), ((1, 1), ()), ((-2, -2), ())]), True)
        self.assertIs(is_book(turned, [((1, 1), ()), ((0, 1), ())]), False)
        self.assertIs(is_book(turned, [((1, 1), ()), ((-1, -1), ())]), False)
        self.assertIs(is_book(BARE, [((5,), ()), ((-3,), ())]), True)
        self.assertIs(is_book(BARE, [((5,), ())]), False)

    def test_is_book_with_one_part_otherwise(self):
        for other in otherwise(BOOK):
            self.assertIs(is_book(EXAMPLE, other), False, other)

    def test_is_book_of_any_value(self):
        for value in any_values():
            self.assertIs(is_book(EXAMPLE, value), False)
            self.assertIs(is_book(EXAMPLE, BOOK + [value]), False)
            self.assertIs(is_book(BARE, [value] * 40), False)

    def test_is_book_of_changed_books(self):
        rng, lines = seeded(44), 0
        for _ in range(60):
            works = random_works(rng)
            book = book_of(works)
            if len(book) > 30:
                continue
            sums = [total(multiple(rng.choice(book), rng.randint(1, 10 ** 9)), rng.choice(book)) for _ in range(5)]
            sums = [tariff for tariff in sums if any(row_of(tariff))]
            thing = [multiple(tariff, rng.randint(1, 4)) for tariff in book] + sums
            rng.shuffle(thing)
            before = copy.deepcopy(thing)
            self.assertIs(is_book(works, thing), True)
            self.assertEqual(thing, before)
            gone = rng.choice(book)
            if has_lines(works):
                lines += 1
            else:
                left = [tariff for tariff in thing if shares_for((row_of(gone),), row_of(tariff)) is None]
                self.assertIs(is_book(works, left), False)
        self.assertGreater(lines, 5)

    def test_forty_great_tariffs(self):
        book = book_of(FULL)
        great = [multiple(tariff, 10 ** 38) for tariff in book]
        times = 0
        while len(great) < 40:
            times += 1
            one, other = book[times % len(book)], book[-1 - times % 3]
            great.append(total(multiple(one, 10 ** 37 + times), multiple(other, 3 * times)))
        self.assertIs(is_book(FULL, great), True)
        self.assertIs(is_book(FULL, great[1:]), False)

    def test_what_is_returned_is_new(self):
        book_of(EXAMPLE).clear()
        self.assertEqual(book_of(EXAMPLE), BOOK)


if __name__ == "__main__":
    unittest.main()
