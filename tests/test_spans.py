"""[20]: shared sums of rows, and the edges of cones."""

import copy
import itertools
import math
import signal
import unittest
from fractions import Fraction

from neverheaps.forms import is_fraction
from neverheaps.spans import dearest_row, edges_of, least_shares, row_against, shares_for
from tests.samples import seeded

ROUNDS = (
    (((-3, 2), (2, 2), (-2, 2), (0, 3), (0, -2), (2, 1), (-2, -3)), (0, 0), (2, 1, 0, 0, 3, 0, 0)),
    (
        ((-3, 1, 1), (-2, 0, 3), (-3, -1, 3), (0, 3, -1), (-3, -2, 2), (2, -2, 2), (-1, -3, -2), (-2, 3, 1), (0, 1, 1)),
        (0, 0, 0), (3, 3, 0, 2, 2, 0, 0, 0, 1),
    ),
    (
        ((5, 8, 1), (7, 5, 4), (-5, -8, 8), (-5, 9, -9), (6, -9, -5), (-7, -7, 9), (9, -4, -4), (-7, 8, 2)),
        (0, 0, 0), (2, 0, 9, 0, 3, 0, 0, 6),
    ),
    (
        ((-2, -7, 7, 6), (6, 9, -8, 1), (1, -9, 2, -5), (-5, -2, 2, 0), (-3, -3, 1, -1), (-3, -9, -6, 6), (0, -2, 2, -9), (-1, -9, 5, -2)),
        (0, 0, 0, 0), (7, 0, 6, 0, 1, 0, 0, 1),
    ),
    (
        ((-9, -8, 1, -6, -9), (1, 0, 7, -8, -1), (3, -1, 9, 6, -8), (3, -1, -4, 5, 8), (-4, -8, -9, 8, 5), (1, 2, -3, -9, 8),
         (7, 8, -2, 6, -5), (9, 2, 2, -2, 5), (-4, 1, 6, 1, -6)),
        (0, 1, 0, 0, 0), (5, 0, 0, 0, 5, 0, 4, 2, 0),
    ),
)


def never_ends(*_):
    raise AssertionError("the search does not come to an end")


def product(one, other):
    return sum(a * b for a, b in zip(one, other, strict=True))


def is_row(thing, size):
    return isinstance(thing, tuple) and len(thing) == size and all(type(item) is int for item in thing)


def summed(columns, shares, size):
    """What the columns sum to in these shares."""
    return tuple(sum(Fraction(*share) * column[at] for share, column in zip(shares, columns)) for at in range(size))


def random_row(rng, size, most=3):
    return tuple(rng.randint(-most, most) for _ in range(size))


def random_task(rng, most=3):
    """Columns, a goal, and costs, with zeros and doubled columns among them."""
    size, many = rng.randint(1, 9), rng.randint(0, 20)
    columns = [random_row(rng, size, rng.choice((1, most))) for _ in range(many)]
    for at in range(many):
        if rng.random() < 0.2:
            columns[at] = rng.choice((columns[0], (0,) * size, tuple(-2 * item for item in columns[0])))
    goal = random_row(rng, size, most)
    if rng.random() < 0.6:
        counts = [rng.choice((0, 0, 1, rng.randint(0, most))) for _ in columns]
        goal = tuple(sum(count * column[at] for count, column in zip(counts, columns)) for at in range(size))
    return tuple(columns), goal, tuple(rng.choice((0, rng.randint(0, most))) for _ in columns)


def solved_row(rows, size):
    """A row, not zeros, whose product with these rows is 0; None if there are several such lines, or none."""
    table, pivots = [[Fraction(item) for item in row] for row in rows], []
    for column in range(size):
        at = next((at for at in range(len(pivots), len(table)) if table[at][column]), None)
        if at is not None:
            table[len(pivots)], table[at] = table[at], table[len(pivots)]
            lead = table[len(pivots)] = [item / table[len(pivots)][column] for item in table[len(pivots)]]
            for other in range(len(table)):
                if other != len(pivots) and table[other][column]:
                    times = table[other][column]
                    table[other] = [a - times * b for a, b in zip(table[other], lead)]
            pivots.append(column)
    free = [column for column in range(size) if column not in pivots]
    if len(free) != 1:
        return None
    found = [Fraction(0)] * size
    found[free[0]] = Fraction(1)
    for at, column in enumerate(pivots):
        found[column] = -table[at][free[0]]
    times = math.lcm(*[item.denominator for item in found])
    whole = [int(item * times) for item in found]
    return tuple(item // math.gcd(*whole) for item in whole)


def slow_edges(rows, size):
    """The edges of a cone without lines: the rows where size - 1 products are 0, on the right side."""
    found = set()
    for some in itertools.combinations(rows, size - 1):
        row = solved_row(some, size)
        for edge in () if row is None else (row, tuple(-item for item in row)):
            if all(product(other, edge) <= 0 for other in rows):
                found.add(edge)
    return sorted(found)


class SharesTest(unittest.TestCase):

    def check_shares(self, columns, goal, shares):
        self.assertIsInstance(shares, tuple)
        self.assertEqual(len(shares), len(columns))
        for share in shares:
            self.assertTrue(is_fraction(share) and share[0] >= 0, share)
        self.assertEqual(summed(columns, shares, len(goal)), goal)

    def check_row_against(self, columns, goal, row):
        self.assertTrue(is_row(row, len(goal)), row)
        self.assertGreater(product(row, goal), 0)
        for column in columns:
            self.assertLessEqual(product(row, column), 0)

    def check(self, columns, goal):
        """Just one of both is there; the shares, or None."""
        shares, row = shares_for(columns, goal), row_against(columns, goal)
        self.assertEqual(shares is None, row is not None)
        if shares is None:
            self.check_row_against(columns, goal, row)
        else:
            self.check_shares(columns, goal, shares)
        return shares

    def check_cheapest(self, columns, goal, costs):
        """The shares are proved the cheapest ones by the row; their cost, or None."""
        shares, dearest = least_shares(columns, goal, costs), dearest_row(columns, goal, costs)
        self.assertEqual(shares is None, dearest is None)
        self.assertEqual(shares is None, shares_for(columns, goal) is None)
        if shares is None:
            return None
        self.check_shares(columns, goal, shares)
        scale, row = dearest
        self.assertTrue(type(scale) is int and scale >= 1 and isinstance(dearest, tuple))
        self.assertTrue(is_row(row, len(goal)))
        cost = sum(Fraction(*share) * cost for share, cost in zip(shares, costs))
        self.assertEqual(product(row, goal), scale * cost)
        for column, cost_of in zip(columns, costs):
            self.assertLessEqual(product(row, column), scale * cost_of)
        return cost

    def test_the_example(self):
        self.assertEqual(shares_for(((2, 0), (0, 3)), (1, 1)), ((1, 2), (1, 3)))
        self.assertIsNone(row_against(((2, 0), (0, 3)), (1, 1)))
        self.assertEqual(least_shares(((1,), (3,)), (6,), (2, 5)), ((0, 1), (2, 1)))

    def test_small_ones(self):
        self.assertEqual(self.check(((1,),), (5,)), ((5, 1),))
        self.assertEqual(self.check(((-4,),), (-6,)), ((3, 2),))
        self.assertIsNone(self.check(((1,),), (-1,)))
        self.assertIsNone(self.check(((-1,),), (1,)))
        self.assertIsNone(self.check(((0,),), (1,)))
        self.assertEqual(self.check(((1, 1), (1, -1)), (3, 1)), ((2, 1), (1, 1)))
        self.assertIsNone(self.check(((1, 1), (1, -1)), (1, 2)))
        self.assertIsNone(self.check(((1, 1), (1, 2)), (1, 3)))
        self.assertEqual(self.check(((1, 1), (1, 2)), (2, 3)), ((1, 1), (1, 1)))

    def test_no_columns(self):
        for size in range(1, 10):
            self.assertEqual(self.check((), (0,) * size), ())
            self.assertIsNone(self.check((), (0,) * (size - 1) + (-7,)))
            self.assertEqual(self.check_cheapest((), (0,) * size, ()), 0)
            self.assertIsNone(self.check_cheapest((), (1,) * size, ()))

    def test_a_goal_of_zeros(self):
        for columns in (((1, 2), (3, 4)), ((0, 0),), ((1, -1), (-1, 1)), ((1, 0), (0, 1), (-1, -1))):
            self.assertIsNotNone(self.check(columns, (0, 0)))
            self.assertEqual(self.check_cheapest(columns, (0, 0), (3,) * len(columns)), 0)

    def test_zeros_and_doubled_columns(self):
        self.check(((0, 0), (0, 0)), (0, 1))
        self.check(((1, 1), (1, 1), (1, 1)), (2, 2))
        self.check(((1, 1), (2, 2), (-1, -1)), (-5, -5))
        self.check(((1, 1), (2, 2), (-1, -1)), (-5, -6))
        self.assertEqual(self.check_cheapest(((1, 1), (1, 1), (1, 1)), (2, 2), (3, 1, 2)), 2)
        self.assertEqual(self.check_cheapest(((0, 0), (2, 2)), (3, 3), (0, 4)), 6)

    def test_costs(self):
        self.assertEqual(self.check_cheapest(((1,), (3,)), (6,), (2, 5)), 10)
        self.assertEqual(self.check_cheapest(((1,), (3,)), (6,), (2, 7)), 12)
        self.assertEqual(self.check_cheapest(((1,), (3,)), (6,), (0, 7)), 0)
        self.assertEqual(self.check_cheapest(((1,), (3,)), (7,), (9, 1)), Fraction(7, 3))
        self.assertIsNone(self.check_cheapest(((1,), (3,)), (-1,), (9, 1)))
        # What is cheaper by itself is dearer by what it brings along.
        columns = ((1, 0), (1, 1), (0, -1))
        self.assertEqual(self.check_cheapest(columns, (4, 0), (5, 1, 3)), 16)
        self.assertEqual(self.check_cheapest(columns, (4, 0), (5, 1, 5)), 20)
        # Rows that say the same, and columns that are not needed for the goal.
        self.assertEqual(self.check_cheapest(((1, 1, 2), (2, 2, 4)), (3, 3, 6), (5, 7)), Fraction(21, 2))

    def test_shares_of_many_tasks(self):
        rng, there = seeded(30), 0
        for _ in range(1500):
            columns, goal, costs = random_task(rng)
            before = copy.deepcopy((columns, goal, costs))
            there += self.check(columns, goal) is not None
            self.check_cheapest(columns, goal, costs)
            self.assertEqual((columns, goal, costs), before)
        self.assertTrue(500 < there < 1300, there)

    def test_great_numbers(self):
        rng = seeded(31)
        for _ in range(60):
            columns, goal, costs = random_task(rng, 10 ** 30)
            self.check(columns, goal)
            self.check_cheapest(columns, goal, costs)

    def test_as_much_as_may_be(self):
        rng = seeded(32)
        for most in (1, 4, 10 ** 30):
            for _ in range(10):
                columns = tuple(random_row(rng, 9, most) for _ in range(20))
                goal = tuple(sum(column[at] for column in columns[3:15]) for at in range(9))
                self.assertIsNotNone(self.check(columns, goal))
                self.assertIsNotNone(self.check_cheapest(columns, goal, tuple(rng.randint(0, most) for _ in columns)))
                positive = tuple(tuple(map(abs, column)) for column in columns)
                self.assertIsNone(self.check(positive, (1,) * 8 + (-1,)))

    def test_tasks_in_which_much_is_even(self):
        # Many shares of 0 at every step: the search must still come to an end.
        rng = seeded(33)
        for _ in range(300):
            size = rng.randint(2, 9)
            columns = tuple(tuple(rng.choice((-1, 0, 0, 1)) for _ in range(size)) for _ in range(20))
            goal = tuple(rng.choice((0, 0, 0, 1)) for _ in range(size))
            self.check(columns, goal)
            self.check_cheapest(columns, goal, tuple(rng.choice((0, 1, 1)) for _ in columns))

    def test_tasks_that_go_round(self):
        # The first one is Beale's; the others go round if of even shares any one goes, not the first one.
        columns = ((1, 2, 0), (-32, -48, 0), (-4, -2, 4), (36, 12, 0), (4, 0, 0), (0, 4, 0), (0, 0, 4))
        signal.signal(signal.SIGALRM, never_ends)
        signal.alarm(60)
        self.assertEqual(self.check_cheapest(columns, (0, 0, 4), (0, 150, 0, 6, 0, 0, 0)), 0)
        self.assertEqual(self.check_cheapest(columns, (1, 0, 4), (3, 150, 1, 6, 9, 9, 9)), Fraction(12, 5))
        for columns, goal, costs in ROUNDS:
            self.check(columns, goal)
            self.check_cheapest(columns, goal, costs)
        signal.alarm(0)

    def test_the_same_again(self):
        rng = seeded(34)
        tasks = [random_task(rng) for _ in range(50)]
        for function in (shares_for, row_against):
            first = [function(columns, goal) for columns, goal, _ in tasks]
            self.assertEqual([function(columns, goal) for columns, goal, _ in tasks[::-1]][::-1], first)
        for function in (least_shares, dearest_row):
            self.assertEqual([function(*task) for task in tasks[::-1]][::-1], [function(*task) for task in tasks])


class EdgesTest(unittest.TestCase):

    def check(self, rows, size):
        """All that can be told without a search: the edges are prime, ascending, in the cone, and none is needless."""
        before = copy.deepcopy(rows)
        edges = edges_of(rows, size)
        self.assertEqual(rows, before)
        self.assertIsInstance(edges, list)
        self.assertEqual(edges, sorted(set(edges)))
        for edge in edges:
            self.assertTrue(is_row(edge, size))
            self.assertEqual(math.gcd(*edge), 1)
            for row in rows:
                self.assertLessEqual(product(row, edge), 0)
        if len(edges) <= 20:
            for edge in edges:
                others = tuple(other for other in edges if other != edge)
                self.assertIsNone(shares_for(others, edge), (rows, edges, edge))
        return edges

    def check_box(self, rows, size, edges, most=2):
        """Each row of the cone with small items is a shared sum of the edges."""
        for row in itertools.product(range(-most, most + 1), repeat=size):
            if all(product(other, row) <= 0 for other in rows):
                self.assertIsNotNone(shares_for(tuple(edges), row), (rows, edges, row))

    def test_the_example(self):
        self.assertEqual(edges_of(((1, 1), (0, -1)), 2), [(-1, 0), (-1, 1)])

    def test_no_rows(self):
        for size in range(1, 10):
            edges = self.check((), size)
            # All is a shared sum exactly if each way along an axis is.
            for at in range(size):
                for sign in (1, -1):
                    goal = tuple(sign if other == at else 0 for other in range(size))
                    self.assertIsNotNone(shares_for(tuple(edges), goal))

    def test_small_cones(self):
        self.assertEqual(self.check(((1,),), 1), [(-1,)])
        self.assertEqual(self.check(((-3,),), 1), [(1,)])
        self.assertEqual(self.check(((1,), (-1,)), 1), [])
        self.assertEqual(self.check(((0,), (2,), (5,)), 1), [(-1,)])
        self.assertEqual(self.check(((-1, 0), (0, -1)), 2), [(0, 1), (1, 0)])
        self.assertEqual(self.check(((1, 0), (-1, 0), (0, -2)), 2), [(0, 1)])
        self.assertEqual(self.check(((1, 0), (-1, 0), (0, 1), (0, -1)), 2), [])
        self.assertEqual(self.check(((2, -3), (-5, 1)), 2), [(1, 5), (3, 2)])
        square = ((1, 0, -1), (-1, 0, -1), (0, 1, -1), (0, -1, -1))
        self.assertEqual(self.check(square, 3), [(-1, -1, 1), (-1, 1, 1), (1, -1, 1), (1, 1, 1)])

    def test_cones_with_lines(self):
        for rows, size in ((((0, 0),), 2), (((1, 0),), 2), (((1, -1), (-1, 1)), 2), (((1, 1, 0), (1, -1, 0)), 3), (((1, 2, 3),), 3),
                           (((1, 1, 1), (-1, -1, -1)), 3), (((1, 0, 0), (-1, 0, 0), (0, 1, 1)), 3)):
            for order in itertools.permutations(rows):
                edges = self.check(order, size)
                self.check_box(rows, size, edges, 3)

    def test_cones_of_many_rows(self):
        rng = seeded(35)
        for _ in range(250):
            size, many = rng.randint(1, 3), rng.randint(0, 6)
            rows = [random_row(rng, size, 2) for _ in range(many)]
            for at in range(many):
                if rng.random() < 0.25:
                    rows[at] = tuple(-item for item in rows[0])
            edges = self.check(tuple(rows), size)
            self.check_box(rows, size, edges)

    def test_cones_without_lines(self):
        rng, seen = seeded(36), 0
        for _ in range(150):
            size = rng.randint(2, 5)
            rows = tuple(random_row(rng, size, rng.choice((1, 3))) for _ in range(rng.randint(size, 9)))
            pointed = rows + tuple(tuple(-(at == other) for other in range(size)) for at in range(rng.choice((0, size))))
            # Rows that sum to all axes leave no line.
            if all(shares_for(pointed + tuple(tuple(-i for i in row) for row in pointed), tuple(
                    int(at == other) for other in range(size))) is not None for at in range(size)):
                seen += 1
                self.assertEqual(self.check(pointed, size), slow_edges(pointed, size), pointed)
        self.assertGreater(seen, 100)

    def test_each_order_of_the_rows(self):
        rng = seeded(37)
        rows = ((1, 0, -1), (-1, 0, -1), (0, 1, -1), (0, -1, -1), (1, 1, -3), (1, 0, -1))
        told = edges_of(rows, 3)
        for order in itertools.permutations(rows):
            self.assertEqual(edges_of(order, 3), told)
        flat = ((1, 1, 0), (-1, -1, 0), (0, 0, -1), (1, 0, -2))
        told = edges_of(flat, 3)
        self.assertEqual(told, slow_edges(flat, 3))
        for order in itertools.permutations(flat):
            self.assertEqual(edges_of(order, 3), told)
        for _ in range(20):
            many = [random_row(rng, 6, 2) for _ in range(7)] + [tuple(-int(at == other) for other in range(6)) for at in range(6)]
            told = self.check(tuple(many), 6)
            self.assertEqual(told, slow_edges(many, 6))
            rng.shuffle(many)
            self.assertEqual(edges_of(tuple(many), 6), told)

    def test_as_much_as_may_be(self):
        rng = seeded(38)
        for most in (1, 3, 10 ** 30):
            for _ in range(3):
                rows = tuple(random_row(rng, 9, most) for _ in range(13))
                edges = self.check(rows, 9)
                self.assertEqual(edges, edges_of(rows[::-1], 9))
        # A cone of the most edges that 13 rows of this size can have.
        moments = tuple(tuple(time ** power for power in range(9)) for time in range(-6, 7))
        edges = self.check(moments, 9)
        self.assertEqual(len(edges), 182)
        self.assertEqual(edges, slow_edges(moments, 9))

    def test_what_is_returned_is_new(self):
        edges_of(((1,),), 1).clear()
        self.assertEqual(edges_of(((1,),), 1), [(-1,)])


if __name__ == "__main__":
    unittest.main()
