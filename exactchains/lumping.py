"""Partitions of the states, and the rows of the chain whose states are the blocks."""

from exactchains.ratios import common_multiple


def blocks_of(labels):
    """The blocks of a partition, ordered by their smallest state."""
    blocks = {}
    for state, label in enumerate(labels):
        if label not in blocks:
            blocks[label] = []
        blocks[label].append(state)
    return list(blocks.values())


def flow_into(chain, i, block):
    """The sum of the generator from i to the states of a block that i isn't in, as a fraction."""
    if chain.is_continuous == 1:
        return (chain.weight_into(i, block), 1)
    return chain.chance_of(i, block)


def flows_agree(chain, source, target):
    """Whether all states of one block have the same flow into a different one."""
    expected = flow_into(chain, source[0], target)
    for i in source:
        if flow_into(chain, i, target) != expected:
            return False
    return True


def is_lumpable_into(chain, blocks):
    """Whether the partition into these blocks is lumpable."""
    for source in blocks:
        for target in blocks:
            if source != target and not flows_agree(chain, source, target):
                return False
    return True


def continuous_row(chain, blocks, place):
    """The lumped rates of the block at this place."""
    first = blocks[place][0]
    row = [chain.weight_into(first, block) for block in blocks]
    row[place] = 0
    return row


def discrete_row(chain, blocks, place):
    """The lumped weights of the block at this place."""
    first = blocks[place][0]
    chances = [chain.chance_of(first, block) for block in blocks]
    common = common_multiple([chance[1] for chance in chances])
    return [chance[0] * (common // chance[1]) for chance in chances]


def lumped_rows(chain, blocks):
    """The rows of weights of the chain that a lumpable partition gives."""
    if chain.is_continuous == 1:
        return [continuous_row(chain, blocks, place) for place in range(len(blocks))]
    return [discrete_row(chain, blocks, place) for place in range(len(blocks))]
