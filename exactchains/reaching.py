"""The operations that tell how states and sets are reached: 14, 15, 16, 18 and 24."""

from exactchains.hitting import first_entries, hitting_probabilities, hitting_times
from exactchains.ratios import added, product, quotient, rest_to_one
from exactchains.refusals import no_result, no_such_state, out_of_range
from exactchains.structure import class_of, closed_classes, is_closed, reaches


def is_set(chain, states):
    """Whether these are different states, at least one."""
    if len(states) == 0 or len(set(states)) != len(states):
        return False
    return all([chain.has_state(i) for i in states])


def hitting_probability(chain, i, targets):
    """The hitting probability of the set from i."""
    if not chain.has_state(i):
        return no_such_state()
    if not is_set(chain, targets):
        return out_of_range()
    return [0] + list(hitting_probabilities(chain, targets)[i])


def hitting_time(chain, i, targets):
    """The hitting time of the set from i."""
    if not chain.has_state(i):
        return no_such_state()
    if not is_set(chain, targets):
        return out_of_range()
    mean = hitting_times(chain, targets)[i]
    if mean is None:
        return no_result()
    return [0] + list(mean)


def absorption(chain, i):
    """The number of closed classes, and for each its name and its hitting probability from i."""
    if not chain.has_state(i):
        return no_such_state()
    found = closed_classes(chain.rows)
    told = [len(found)]
    for members in found:
        told.append(members[0])
        told.extend(hitting_probabilities(chain, members)[i])
    return told


def visits(chain, i, j):
    """The visits of j from i."""
    if not chain.has_state(i) or not chain.has_state(j):
        return no_such_state()
    if not reaches(chain.rows, i, j):
        return [0, 0, 1]
    if is_closed(chain.rows, class_of(chain.rows, j)):
        return no_result()
    chances = hitting_probabilities(chain, [j])
    back = added([product(chain.chance_of(j, [k]), chance) for k, chance in enumerate(chances)])
    return [0] + list(quotient(chances[i], rest_to_one(back)))


def watched(chain, i, j, members):
    """The transition probability from i to j of the chain that is watched in some states."""
    if not chain.has_state(i) or not chain.has_state(j):
        return no_such_state()
    if not is_set(chain, members):
        return out_of_range()
    if i not in members or j not in members:
        return no_result()
    entries = first_entries(chain, members, j)
    unseen = [product(chain.chance_of(i, [k]), entry) for k, entry in enumerate(entries)]
    return [0] + list(added([chain.chance_of(i, [j])] + unseen))
