"""How sets of states are reached: probabilities, mean times, and the state that is reached first.

Each of the functions that answer for all states solves one system for some of
them: the value of such a state is its gain, plus the values of all such states,
each times the jump probability to it. The other states need no system.
"""

from exactchains.ratios import ratio
from exactchains.solving import solve
from exactchains.structure import distances_from


def leading_states(chain, targets):
    """The states outside of a set that reach it."""
    found = []
    for i in range(chain.state_count()):
        distances = distances_from(chain.rows, i)
        if i not in targets and any([distances[j] is not None for j in targets]):
            found.append(i)
    return found


def values_from_gains(chain, states, gains):
    """For each state of the chain its value, as a fraction; 0 for those that the system isn't for.

    A gain is given times the sum of its state, so that it is a whole number.
    """
    equations = []
    for place, i in enumerate(states):
        row = [-chain.rows[i][j] for j in states]
        row[place] += chain.sum_of(i)
        equations.append(row + [gains[place]])
    solution = solve(equations)
    values = [(0, 1)] * chain.state_count()
    for place, i in enumerate(states):
        values[i] = ratio(solution[place], solution[-1])
    return values


def hitting_probabilities(chain, targets):
    """For each state the hitting probability of the set."""
    states = leading_states(chain, targets)
    values = values_from_gains(chain, states, [chain.weight_into(i, targets) for i in states])
    for j in targets:
        values[j] = (1, 1)
    return values


def hitting_times(chain, targets):
    """For each state the hitting time of the set, or None if the hitting probability isn't 1."""
    chances = hitting_probabilities(chain, targets)
    certain = [i for i in range(chain.state_count()) if chances[i] == (1, 1)]
    states = [i for i in certain if i not in targets]
    # The gain is the stay: 1, or 1 divided by the sum.
    times = values_from_gains(chain, states, [chain.sum_of(i) // chain.stay_in(i)[1] for i in states])
    return [times[i] if i in certain else None for i in range(chain.state_count())]


def first_entries(chain, members, j):
    """For each state outside of a set the probability that j is the first state of the set that is reached."""
    states = leading_states(chain, members)
    return values_from_gains(chain, states, [chain.rows[i][j] for i in states])
