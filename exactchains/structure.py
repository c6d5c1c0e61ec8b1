"""How the states of a chain are connected: distances, classes and periods.

The rows handed in are the rows of weights of a chain.
"""

from exactchains.ratios import greatest_divisor


def distances_from(rows, start):
    """For each state its distance from start, or None if it isn't reached."""
    distances = [None] * len(rows)
    distances[start] = 0
    reached = [start]
    place = 0
    while place < len(reached):
        state = reached[place]
        for other, weight in enumerate(rows[state]):
            if weight > 0 and distances[other] is None:
                distances[other] = distances[state] + 1
                reached.append(other)
        place += 1
    return distances


def reaches(rows, i, j):
    """Whether i reaches j; each state reaches itself."""
    return distances_from(rows, i)[j] is not None


def class_of(rows, i):
    """The states of the class of i, in increasing order."""
    return [j for j in range(len(rows)) if reaches(rows, i, j) and reaches(rows, j, i)]


def class_names(rows):
    """For each state the smallest state of its class."""
    return [class_of(rows, i)[0] for i in range(len(rows))]


def is_closed(rows, members):
    """Whether no transition leads out of a class."""
    for i in members:
        for j, weight in enumerate(rows[i]):
            if weight > 0 and j not in members:
                return False
    return True


def all_classes(rows):
    """The states of each class, ordered by their smallest state."""
    names = class_names(rows)
    return [class_of(rows, i) for i in range(len(rows)) if names[i] == i]


def closed_classes(rows):
    """The states of each closed class, ordered by their smallest state."""
    return [members for members in all_classes(rows) if is_closed(rows, members)]


def period_of(rows, i):
    """The period of a state."""
    members = class_of(rows, i)
    distances = distances_from(rows, i)
    period = 0
    for j in members:
        for k in members:
            if rows[j][k] > 0:
                period = greatest_divisor(period, distances[j] + 1 - distances[k])
    return period
