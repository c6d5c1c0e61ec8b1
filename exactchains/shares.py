"""The operations that tell of distributions: 13, 17 and 19 to 22."""

from exactchains.balance import long_run_shares, stationary_around
from exactchains.model import GREATEST_START, GREATEST_STEPS
from exactchains.ratios import product, quotient
from exactchains.refusals import no_result, no_such_state, out_of_range
from exactchains.steps import distribution_after
from exactchains.structure import class_of, reaches


def with_count(fractions):
    """How many fractions there are, then these."""
    told = [len(fractions)]
    for fraction in fractions:
        told.extend(fraction)
    return told


def stationary(chain, i):
    """The stationary distribution of the class of i."""
    if not chain.has_state(i):
        return no_such_state()
    values = stationary_around(chain, i)
    if values is None:
        return no_result()
    return with_count(values)


def return_time(chain, i):
    """The mean time from one entry into i to the next one."""
    if not chain.has_state(i):
        return no_such_state()
    values = stationary_around(chain, i)
    if values is None or (chain.is_continuous == 1 and chain.sum_of(i) == 0):
        return no_result()
    return [0] + list(quotient(chain.stay_in(i), values[i]))


def long_run(chain, i):
    """The long-run share of each state from i."""
    if not chain.has_state(i):
        return no_such_state()
    return with_count(long_run_shares(chain, i))


def is_start(chain, start):
    """Whether this is a distribution, up to a factor."""
    if len(start) != chain.state_count():
        return False
    return 0 < max(start) <= GREATEST_START


def after_steps(chain, steps, start):
    """The distribution after some steps."""
    if steps > GREATEST_STEPS or not is_start(chain, start):
        return out_of_range()
    if chain.is_continuous == 1 and chain.greatest_sum() == 0:
        return no_result()
    return with_count(distribution_after(chain, steps, start))


def is_reversible(chain, i):
    """Whether the class of i looks the same when time runs backwards."""
    if not chain.has_state(i):
        return no_such_state()
    values = stationary_around(chain, i)
    if values is None:
        return no_result()
    members = class_of(chain.rows, i)
    for j in members:
        for k in members:
            there = product(values[j], chain.generator_value(j, k))
            if there != product(values[k], chain.generator_value(k, j)):
                return [0]
    return [1]


def reversed_generator(chain, i, j):
    """The generator for i and j of the chain that runs backwards in time."""
    if not chain.has_state(i) or not chain.has_state(j):
        return no_such_state()
    values = stationary_around(chain, i)
    if values is None or not reaches(chain.rows, i, j):
        return no_result()
    back = product(values[j], chain.generator_value(j, i))
    return [0] + list(quotient(back, values[i]))
