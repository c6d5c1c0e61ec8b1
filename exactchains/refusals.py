"""The answers that stand for an error: the code alone."""


def no_instance():
    """The answer while there is no instance."""
    return [-11]


def no_such_state():
    """The answer when a number isn't that of a state."""
    return [-2]


def out_of_range():
    """The answer when an argument is outside its range."""
    return [-22]


def no_result():
    """The answer when the chain doesn't allow what is asked for."""
    return [-33]


def weight_too_large():
    """The answer when a weight would be too large."""
    return [-75]
