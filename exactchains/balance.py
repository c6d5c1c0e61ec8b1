"""Where a chain is in the long run: stationary distributions and long-run shares."""

from exactchains.hitting import hitting_probabilities
from exactchains.ratios import product, ratio
from exactchains.solving import solve
from exactchains.structure import class_of, closed_classes, is_closed


def balanced_numbers(chain, members):
    """For each member a whole number, such that a state's number times its sum is what it gets from all others.

    What it gets from another one is that one's number times the weight. The members are a closed class.
    """
    first = members[0]
    others = members[1:]
    equations = []
    for place, j in enumerate(others):
        row = [-chain.rows[i][j] for i in others]
        row[place] += chain.sum_of(j)
        equations.append(row + [chain.rows[first][j]])
    # The first state's number is taken to be the denominator, which makes all of them whole.
    solution = solve(equations)
    return [solution[-1]] + solution[:-1]


def stationary_numbers(chain, members):
    """The stationary distribution of a closed class, up to a factor, for its members."""
    numbers = balanced_numbers(chain, members)
    # A single member may have the sum 0, which would leave nothing in a discrete chain.
    if chain.is_continuous == 1 or len(members) == 1:
        return numbers
    return [number * chain.sum_of(i) for number, i in zip(numbers, members)]


def stationary_distribution(chain, members):
    """For each state of the chain its value in the stationary distribution of a closed class."""
    numbers = stationary_numbers(chain, members)
    total = sum(numbers)
    values = [(0, 1)] * chain.state_count()
    for number, i in zip(numbers, members):
        values[i] = ratio(number, total)
    return values


def stationary_around(chain, i):
    """The stationary distribution of the class of i, or None if the class isn't closed."""
    members = class_of(chain.rows, i)
    if not is_closed(chain.rows, members):
        return None
    return stationary_distribution(chain, members)


def long_run_shares(chain, i):
    """For each state its long-run share from i."""
    shares = [(0, 1)] * chain.state_count()
    for members in closed_classes(chain.rows):
        chance = hitting_probabilities(chain, members)[i]
        values = stationary_distribution(chain, members)
        # No state is in two classes, so its share comes from one of them alone.
        for j in members:
            shares[j] = product(chance, values[j])
    return shares
