"""The interface: a list of calls is executed, and all answers are given back in one list."""

from exactchains.changes import create, embed, lump, remove_state, set_row, set_weight, uniformize
from exactchains.lookups import class_info, classes, distance, generator, get_weight, is_lumpable, probability, summary
from exactchains.model import Instance
from exactchains.reaching import absorption, hitting_probability, hitting_time, visits, watched
from exactchains.reading import Reader
from exactchains.refusals import no_instance
from exactchains.shares import after_steps, is_reversible, long_run, return_time, reversed_generator, stationary

CHANGING = ("set_weight", "set_row", "remove_state", "uniformize", "embed", "lump")
REACHING = ("hitting_probability", "hitting_time", "absorption", "visits", "watched")
SHARING = ("stationary", "return_time", "long_run", "after_steps", "is_reversible", "reversed")


def change(instance, name, given):
    """Execute an operation that changes the chain of the instance."""
    if name == "set_weight":
        return set_weight(instance, given[0], given[1], given[2])
    if name == "set_row":
        return set_row(instance, given[0], given[1])
    if name == "remove_state":
        return remove_state(instance, given[0])
    if name == "uniformize":
        return uniformize(instance, given[0])
    if name == "embed":
        return embed(instance)
    return lump(instance, given[0])


def reach(chain, name, given):
    """Execute an operation that tells how states and sets are reached."""
    if name == "hitting_probability":
        return hitting_probability(chain, given[0], given[1])
    if name == "hitting_time":
        return hitting_time(chain, given[0], given[1])
    if name == "absorption":
        return absorption(chain, given[0])
    if name == "visits":
        return visits(chain, given[0], given[1])
    return watched(chain, given[0], given[1], given[2])


def share(chain, name, given):
    """Execute an operation that tells of distributions."""
    if name == "stationary":
        return stationary(chain, given[0])
    if name == "return_time":
        return return_time(chain, given[0])
    if name == "long_run":
        return long_run(chain, given[0])
    if name == "after_steps":
        return after_steps(chain, given[0], given[1])
    if name == "is_reversible":
        return is_reversible(chain, given[0])
    return reversed_generator(chain, given[0], given[1])


def look_up(chain, name, given):
    """Execute an operation that tells of weights, classes and partitions."""
    if name == "get_weight":
        return get_weight(chain, given[0], given[1])
    if name == "probability":
        return probability(chain, given[0], given[1])
    if name == "generator":
        return generator(chain, given[0], given[1])
    if name == "classes":
        return classes(chain)
    if name == "class_info":
        return class_info(chain, given[0])
    if name == "distance":
        return distance(chain, given[0], given[1])
    if name == "is_lumpable":
        return is_lumpable(chain, given[0])
    return summary(chain)


def answer(instance, call):
    """Execute one call; give back its answer."""
    if call.name == "create":
        return create(instance, call.arguments[0], call.arguments[1])
    if instance.chain is None:
        return no_instance()
    if call.name in CHANGING:
        return change(instance, call.name, call.arguments)
    if call.name in REACHING:
        return reach(instance.chain, call.name, call.arguments)
    if call.name in SHARING:
        return share(instance.chain, call.name, call.arguments)
    return look_up(instance.chain, call.name, call.arguments)


def answers(calls):
    """Execute the calls on a new instance; give back each answer behind its length."""
    instance = Instance()
    reader = Reader(calls)
    answered = []
    while not reader.at_end():
        numbers = answer(instance, reader.take_call())
        answered.append(len(numbers))
        answered.extend(numbers)
    return answered
