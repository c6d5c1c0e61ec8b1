"""What the tests share: calls written as tuples, and answers read back as lists."""

import re
from fractions import Fraction
from math import gcd

from exactchains.chains import answers

GREATEST = 4294967295

NUMBERS = {name: number for number, name in enumerate(
    "create set_weight set_row remove_state uniformize embed lump get_weight probability generator "
    "classes class_info distance stationary hitting_probability hitting_time absorption return_time "
    "visits long_run after_steps is_reversible reversed is_lumpable watched summary".split())}

# A call of each operation but create, with arguments that are right for two states.
CALLS_BUT_CREATE = [
    ("set_weight", 0, 1, 5), ("set_row", 0, [0, 1]), ("remove_state", 0), ("uniformize", 9), ("embed",),
    ("lump", [0, 1]), ("get_weight", 0, 0), ("probability", 0, 1), ("generator", 0, 1), ("classes",),
    ("class_info", 0), ("distance", 0, 1), ("stationary", 0), ("hitting_probability", 0, [1]),
    ("hitting_time", 0, [1]), ("absorption", 0), ("return_time", 0), ("visits", 0, 1), ("long_run", 0),
    ("after_steps", 1, [3, 0]), ("is_reversible", 0), ("reversed", 0, 1), ("is_lumpable", [0, 1]),
    ("watched", 0, 1, [0, 1]), ("summary",)]


def written(calls):
    """Calls such as ("set_row", 0, [1, 2]) as the one list that is handed in."""
    numbers = []
    for call in calls:
        numbers.append(NUMBERS[call[0]])
        for argument in call[1:]:
            if isinstance(argument, list):
                numbers.append(len(argument))
                numbers.extend(argument)
            else:
                numbers.append(argument)
    return numbers


def split_answers(numbers):
    """The one list that is given back, as a list for each call."""
    split = []
    place = 0
    while place < len(numbers):
        length = numbers[place]
        answer = numbers[place + 1:place + 1 + length]
        if length < 1 or len(answer) != length:
            raise AssertionError(f"not a list of answers: {numbers}")
        split.append(answer)
        place += 1 + length
    return split


def run(*calls):
    """The answers to these calls, which are to be within what the document hands in."""
    if len(calls) > 60 or len(written(calls)) > 1200:
        raise AssertionError("the list is too long")
    split = split_answers(answers(written(calls)))
    if len(split) != len(calls):
        raise AssertionError(f"{len(split)} answers to {len(calls)} calls")
    return split


def last(*calls):
    """The answer to the last of these calls."""
    return run(*calls)[-1]


def behind(made, *calls):
    """The answers to these calls, without those to the calls that make the chain."""
    return run(*made, *calls)[len(made):]


def fractions_of(numbers):
    """Numerators and denominators as fractions; these are to be in lowest terms."""
    pairs = list(zip(numbers[::2], numbers[1::2]))
    if len(numbers) % 2 == 1:
        raise AssertionError(f"not fractions: {numbers}")
    for numerator, denominator in pairs:
        if denominator < 1 or gcd(numerator, denominator) != 1:
            raise AssertionError(f"not in lowest terms: {numbers}")
    return [Fraction(*pair) for pair in pairs]


def wrong_sets(count):
    """Lists that aren't different states of so many, at least one."""
    states = list(range(count))
    return [[], [0, 0], [count], [0, count], [count, 0], [GREATEST], states + [0], states + [count], [0] * 16,
            list(range(16))]


def chain(is_continuous, rows):
    """The calls that make a chain with these rows."""
    return [("create", is_continuous, len(rows))] + [("set_row", i, row) for i, row in enumerate(rows)]


def rows_after(calls, count):
    """The rows of weights after these calls, and 1 if the chain is continuous then, else 0."""
    if last(*calls, ("get_weight", count, 0)) != [-2]:
        raise AssertionError(f"there are more than {count} states")
    # A list has at most 60 calls, so each row is asked for in a list of its own.
    told = [run(*calls, *[("get_weight", i, j) for j in range(count)])[len(calls):] for i in range(count)]
    rows = [[answer[0] for answer in row] for row in told]
    return rows, last(*calls, ("embed",))[0]


def cycle(count):
    """The rows of a chain that goes round all of its states."""
    return [[int(j == (i + 1) % count) for j in range(count)] for i in range(count)]


def walk(count):
    """The rows of a chain that goes one up or one down with equal chances, until it is at an end."""
    return [[int(abs(i - j) == 1 and 0 < i < count - 1) for j in range(count)] for i in range(count)]


def parse_row(row):
    """A row of the document's examples as a call and its answer."""
    name, arguments, answer = re.fullmatch(r"\s*(\w+)\((.*)\) -> (.*)", row).groups()
    values = eval(f"[{arguments}]")
    return (name, *values), [int(part) for part in answer.replace("error ", "").split(", ")]
