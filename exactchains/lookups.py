"""The operations that tell of the chain's weights, classes and partitions: 7 to 12, 23 and 25."""

from exactchains.lumping import blocks_of, is_lumpable_into
from exactchains.refusals import no_result, no_such_state, out_of_range
from exactchains.structure import class_names, class_of, closed_classes, distances_from, is_closed, period_of


def get_weight(chain, i, j):
    """The weight from i to j."""
    if not chain.has_state(i) or not chain.has_state(j):
        return no_such_state()
    return [chain.rows[i][j]]


def probability(chain, i, j):
    """The jump probability from i to j."""
    if not chain.has_state(i) or not chain.has_state(j):
        return no_such_state()
    return [0] + list(chain.chance_of(i, [j]))


def generator(chain, i, j):
    """The generator for i and j."""
    if not chain.has_state(i) or not chain.has_state(j):
        return no_such_state()
    return [0] + list(chain.generator_value(i, j))


def classes(chain):
    """The number of classes, and for each state the name of its class."""
    names = class_names(chain.rows)
    return [len(set(names))] + names


def class_info(chain, i):
    """The size of the class of i, whether it is closed, the period of i, and the states of the class."""
    if not chain.has_state(i):
        return no_such_state()
    members = class_of(chain.rows, i)
    closed = 1 if is_closed(chain.rows, members) else 0
    return [len(members), closed, period_of(chain.rows, i)] + members


def distance(chain, i, j):
    """The distance from i to j."""
    if not chain.has_state(i) or not chain.has_state(j):
        return no_such_state()
    found = distances_from(chain.rows, i)[j]
    if found is None:
        return no_result()
    return [found]


def is_lumpable(chain, labels):
    """Whether the partition is lumpable."""
    if len(labels) != chain.state_count():
        return out_of_range()
    return [1 if is_lumpable_into(chain, blocks_of(labels)) else 0]


def summary(chain):
    """The numbers of states, the kind, the numbers of classes and of closed ones, and the greatest sum."""
    class_count = len(set(class_names(chain.rows)))
    closed_count = len(closed_classes(chain.rows))
    return [chain.state_count(), chain.is_continuous, class_count, closed_count, chain.greatest_sum()]
