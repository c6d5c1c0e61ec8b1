"""The operations that change the instance: 0 to 6.

Each checks its errors first, in the order of the document, and gives the
instance a new chain only when nothing can be refused any more.
"""

from exactchains.lumping import blocks_of, is_lumpable_into, lumped_rows
from exactchains.model import GREATEST_COUNT, GREATEST_WEIGHT, Chain
from exactchains.refusals import no_result, no_such_state, out_of_range, weight_too_large


def create(instance, is_continuous, count):
    """Begin anew with a chain whose weights are all 0."""
    if is_continuous > 1 or count < 1 or count > GREATEST_COUNT:
        return out_of_range()
    instance.chain = Chain(is_continuous, [[0] * count for state in range(count)])
    return [0]


def is_weight(chain, i, j, weight):
    """Whether the weight from i to j may be this one."""
    if chain.is_continuous == 1 and i == j:
        return weight == 0
    return weight <= GREATEST_WEIGHT


def set_weight(instance, i, j, weight):
    """Change one weight; answer the previous one."""
    chain = instance.chain
    if not chain.has_state(i) or not chain.has_state(j):
        return no_such_state()
    if not is_weight(chain, i, j, weight):
        return out_of_range()
    old_weight = chain.rows[i][j]
    rows = chain.copied_rows()
    rows[i][j] = weight
    instance.chain = Chain(chain.is_continuous, rows)
    return [old_weight]


def is_row(chain, i, weights):
    """Whether the weights from i may be these."""
    if len(weights) != chain.state_count():
        return False
    return all([is_weight(chain, i, j, weight) for j, weight in enumerate(weights)])


def set_row(instance, i, weights):
    """Change all weights of a state; answer its new sum."""
    chain = instance.chain
    if not chain.has_state(i):
        return no_such_state()
    if not is_row(chain, i, weights):
        return out_of_range()
    rows = chain.copied_rows()
    rows[i] = list(weights)
    instance.chain = Chain(chain.is_continuous, rows)
    return [sum(weights)]


def remove_state(instance, i):
    """Remove a state with its weights; answer how many remain."""
    chain = instance.chain
    if not chain.has_state(i):
        return no_such_state()
    if chain.state_count() == 1:
        return no_result()
    rows = chain.copied_rows()
    rows.pop(i)
    for row in rows:
        row.pop(i)
    instance.chain = Chain(chain.is_continuous, rows)
    return [len(rows)]


def uniformize(instance, rate):
    """Make a continuous chain discrete, with steps of this rate; answer the greatest sum before."""
    chain = instance.chain
    if chain.is_continuous == 0:
        return no_result()
    greatest_sum = chain.greatest_sum()
    if rate == 0 or rate < greatest_sum or rate > GREATEST_WEIGHT:
        return out_of_range()
    rows = chain.copied_rows()
    for i in range(len(rows)):
        rows[i][i] = rate - chain.sum_of(i)
    instance.chain = Chain(0, rows)
    return [greatest_sum]


def embed(instance):
    """Make the chain discrete, with no weight from a state to itself; answer whether it was continuous."""
    chain = instance.chain
    rows = chain.copied_rows()
    for i in range(len(rows)):
        rows[i][i] = 0
    instance.chain = Chain(0, rows)
    return [chain.is_continuous]


def lump(instance, labels):
    """Make each block of a partition one state; answer the number of blocks."""
    chain = instance.chain
    if len(labels) != chain.state_count():
        return out_of_range()
    blocks = blocks_of(labels)
    if not is_lumpable_into(chain, blocks):
        return no_result()
    rows = lumped_rows(chain, blocks)
    if max([max(row) for row in rows]) > GREATEST_WEIGHT:
        return weight_too_large()
    instance.chain = Chain(chain.is_continuous, rows)
    return [len(blocks)]
