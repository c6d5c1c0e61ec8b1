"""Distributions after some steps."""

from exactchains.ratios import common_multiple, ratio


def common_sum(chain):
    """A whole number that makes the step matrix whole when it is multiplied by it."""
    if chain.is_continuous == 1:
        return chain.greatest_sum()
    sums = [chain.sum_of(i) for i in range(chain.state_count())]
    return common_multiple([total for total in sums if total > 0])


def step_row(chain, i, common):
    """The step matrix for i, times the common sum."""
    factor = 1
    if chain.is_continuous == 0 and chain.sum_of(i) > 0:
        factor = common // chain.sum_of(i)
    row = [weight * factor for weight in chain.rows[i]]
    # What doesn't leave the state stays there; in a discrete chain that's left for a sum of 0 alone.
    row[i] += common - sum(row)
    return row


def after_step(numbers, rows):
    """The distribution one step later, times the common sum."""
    later = [0] * len(numbers)
    for number, row in zip(numbers, rows):
        later = [old + number * weight for old, weight in zip(later, row)]
    return later


def distribution_after(chain, steps, start):
    """The distribution after some steps from one that is proportional to start, as fractions."""
    common = common_sum(chain)
    rows = [step_row(chain, i, common) for i in range(chain.state_count())]
    numbers = list(start)
    total = sum(start)
    for step in range(steps):
        numbers = after_step(numbers, rows)
        total *= common
    return [ratio(number, total) for number in numbers]
