"""The interface: a list of calls is executed, and all answers are given back in one list."""

from exactchains.changes import create, embed, lump, remove_state, set_row, set_weight, uniformize
from exactchains.lookups import class_info, classes, distance, generator, get_weight, probability
from exactchains.model import Instance
from exactchains.reading import Reader
from exactchains.refusals import no_instance

CHANGING = ("set_weight", "set_row", "remove_state", "uniformize", "embed", "lump")


def change(instance, name, given):
    """Execute an operation that changes the chain of the instance."""
    if name == "set_weight":
        return set_weight(instance, given[0], given[1], given[2])
    if name == "set_row":
        return set_row(instance, given[0], given[1])
    if name == "remove_state":
        return remove_state(instance, given[0])
    if name == "uniformize":
        return uniformize(instance, given[0])
    if name == "embed":
        return embed(instance)
    return lump(instance, given[0])


def look_up(chain, name, given):
    """Execute an operation that only tells of the chain."""
    if name == "get_weight":
        return get_weight(chain, given[0], given[1])
    if name == "probability":
        return probability(chain, given[0], given[1])
    if name == "generator":
        return generator(chain, given[0], given[1])
    if name == "classes":
        return classes(chain)
    if name == "class_info":
        return class_info(chain, given[0])
    if name == "distance":
        return distance(chain, given[0], given[1])
    # Operations 13 to 25 aren't built yet: better no answer than a wrong one.
    raise NotImplementedError(name)


def answer(instance, call):
    """Execute one call; give back its answer."""
    if call.name == "create":
        return create(instance, call.arguments[0], call.arguments[1])
    if instance.chain is None:
        return no_instance()
    if call.name in CHANGING:
        return change(instance, call.name, call.arguments)
    return look_up(instance.chain, call.name, call.arguments)


def answers(calls):
    """Execute the calls on a new instance; give back each answer behind its length."""
    instance = Instance()
    reader = Reader(calls)
    answered = []
    while not reader.at_end():
        numbers = answer(instance, reader.take_call())
        answered.append(len(numbers))
        answered.extend(numbers)
    return answered
