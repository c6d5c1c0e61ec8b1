"""Systems of linear equations, solved in whole numbers."""


def eliminated(row, pivot_row, place, previous):
    """The row without the unknown at this place; previous divides each number without a rest."""
    pivot = pivot_row[place]
    factor = row[place]
    return [(pivot * number - factor * other) // previous for number, other in zip(row, pivot_row)]


def solve(equations):
    """The numerators of the unknowns, one behind another, and behind them their common denominator.

    An equation is a row: a factor for each unknown, then what they come to.
    """
    # No pivot is looked for: the factors are sums of states less the weights
    # among them, and these states are left in the end. Then all leading minors
    # are positive, and these minors are the pivots of Bareiss's elimination.
    rows = [list(row) for row in equations]
    previous = 1
    for place in range(len(rows)):
        pivot_row = rows[place]
        for other in range(len(rows)):
            if other != place:
                rows[other] = eliminated(rows[other], pivot_row, place, previous)
        previous = pivot_row[place]
    return [row[-1] for row in rows] + [previous]
