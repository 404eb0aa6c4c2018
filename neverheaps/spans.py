"""Shared sums of rows: shares and what proves that there are none, and the edges of cones."""

from neverheaps.exact import Equations, dot, negated, prime_row, unit_row


def _cheapest(columns, goal, costs):
    """The solved equations of the cheapest shares; None if there are no shares."""
    equations = Equations(columns, goal, costs)
    if not equations.reach():
        return None
    equations.cheapen()
    return equations


def shares_for(columns, goal):
    """Shares by which the columns sum to the goal; None if there are none."""
    return least_shares(columns, goal, (0,) * len(columns))


def row_against(columns, goal):
    """A row whose product is at most 0 with each column, and above 0 with the goal; None if there is none."""
    equations = Equations(columns, goal, (0,) * len(columns))
    if equations.reach():
        return None
    return equations.row_against()


def least_shares(columns, goal, costs):
    """Shares by which the columns sum to the goal, at the least cost; None if there are none."""
    equations = _cheapest(columns, goal, costs)
    if equations is None:
        return None
    return equations.shares()


def dearest_row(columns, goal, costs):
    """A tuple (scale, row) that proves the least cost; None if there are no shares."""
    equations = _cheapest(columns, goal, costs)
    if equations is None:
        return None
    return equations.dearest_row()


def _flattened(row, lower, other):
    """The prime sum of shares of lower and other whose product with the row is 0.

    The product of lower with the row is below 0.
    """
    down, up = -dot(row, lower), dot(row, other)
    return prime_row([down * right + up * left for left, right in zip(lower, other)])


def _without_line(lines, rays, row, mark):
    """The lines and rays of a cone that the row cuts through a line: one line becomes a ray."""
    crossing = [line for line in lines if dot(row, line) != 0]
    lower = crossing[0]
    if dot(row, lower) > 0:
        lower = negated(lower)
    left = [_flattened(row, lower, line) for line in lines if line != crossing[0]]
    turned = [(_flattened(row, lower, ray), zeros | mark) for ray, zeros in rays]
    # The product of a line with each row ahead is 0.
    return left, turned + [(lower, mark - 1)]


def _are_neighbours(rays, common):
    """Whether just two rays have these zeros in common, and so span a face."""
    many = 0
    for _, zeros in rays:
        if (zeros & common) == common:
            many += 1
            if many > 2:
                return False
    return True


def _without_rays(rays, row, mark):
    """The rays of a cone that the row cuts, but none of its lines."""
    products = [dot(row, ray) for ray, _ in rays]
    found = []
    for (ray, zeros), product in zip(rays, products):
        if product <= 0:
            found.append((ray, (zeros | mark) if product == 0 else zeros))
    under = [couple for couple, product in zip(rays, products) if product < 0]
    over = [couple for couple, product in zip(rays, products) if product > 0]
    for lower, zeros in under:
        for upper, others in over:
            if _are_neighbours(rays, zeros & others):
                found.append((_flattened(row, lower, upper), (zeros & others) | mark))
    return found


def edges_of(rows, size):
    """The ascending list of prime rows of which each row of the cone is a shared sum, and none is needless."""
    lines = [unit_row(size, at) for at in range(size)]
    # Each ray with its zeros: a bit for each row with which its product is 0.
    rays = []
    for index, row in enumerate(rows):
        if any([dot(row, line) != 0 for line in lines]):
            lines, rays = _without_line(lines, rays, row, 1 << index)
        else:
            rays = _without_rays(rays, row, 1 << index)
    found = [ray for ray, _ in rays]
    for line in lines:
        found += [line, negated(line)]
    return sorted(found)
