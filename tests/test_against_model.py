"""Long lists of calls, compared with a second program that follows the words in other ways."""

import random
import unittest
from fractions import Fraction
from math import gcd, lcm

import helper


class Model:
    """A chain as a dict of weights; each operation is worked out anew from the words."""

    def __init__(self):
        self.weights = None
        self.count = 0
        self.continuous = 0

    def total(self, i):
        return sum(self.weights[i, j] for j in range(self.count))

    def jump(self, i, j):
        total = self.total(i)
        return Fraction(self.weights[i, j], total) if total else Fraction(int(i == j))

    def value(self, i, j):
        if self.continuous:
            return Fraction(-self.total(i) if i == j else self.weights[i, j])
        return self.jump(i, j) - int(i == j)

    def distances(self):
        """All distances, by shortening ways over each state in turn."""
        states = range(self.count)
        far = {(i, j): 0 if i == j else 1 if self.weights[i, j] else None for i in states for j in states}
        for over in states:
            for i in states:
                for j in states:
                    if far[i, over] is not None and far[over, j] is not None:
                        length = far[i, over] + far[over, j]
                        far[i, j] = length if far[i, j] is None else min(far[i, j], length)
        return far

    def members(self, i):
        far = self.distances()
        return [j for j in range(self.count) if far[i, j] is not None and far[j, i] is not None]

    def period(self, i):
        """The divisor of the lengths of all ways from i to i that are long enough to take any cycle along."""
        at, period = {i}, 0
        for length in range(1, 3 * self.count + 1):
            at = {k for j in at for k in range(self.count) if self.weights[j, k]}
            if i in at:
                period = gcd(period, length)
        return period

    def in_range(self, *states):
        return all(state < self.count for state in states)

    def fits(self, i, j, weight):
        return weight <= 1000000 and not (self.continuous and i == j and weight)

    def fraction(self, value):
        return [0, value.numerator, value.denominator]

    def create(self, continuous, count):
        if continuous not in (0, 1) or not 1 <= count <= 8:
            return [-22]
        self.continuous, self.count = continuous, count
        self.weights = {(i, j): 0 for i in range(count) for j in range(count)}
        return [0]

    def set_weight(self, i, j, weight):
        if not self.in_range(i, j):
            return [-2]
        if not self.fits(i, j, weight):
            return [-22]
        old, self.weights[i, j] = self.weights[i, j], weight
        return [old]

    def set_row(self, i, weights):
        if not self.in_range(i):
            return [-2]
        if len(weights) != self.count or not all(self.fits(i, j, weight) for j, weight in enumerate(weights)):
            return [-22]
        for j, weight in enumerate(weights):
            self.weights[i, j] = weight
        return [sum(weights)]

    def remove_state(self, i):
        if not self.in_range(i):
            return [-2]
        if self.count == 1:
            return [-33]
        self.weights = {(j - (j > i), k - (k > i)): weight for (j, k), weight in self.weights.items() if i not in (j, k)}
        self.count -= 1
        return [self.count]

    def uniformize(self, rate):
        if not self.continuous:
            return [-33]
        sums = [self.total(i) for i in range(self.count)]
        if not max(1, *sums) <= rate <= 1000000:
            return [-22]
        for i in range(self.count):
            self.weights[i, i] = rate - sums[i]
        self.continuous = 0
        return [max(sums)]

    def embed(self):
        was, self.continuous = self.continuous, 0
        for i in range(self.count):
            self.weights[i, i] = 0
        return [was]

    def lump(self, labels):
        if len(labels) != self.count:
            return [-22]
        names = sorted(set(labels), key=labels.index)
        blocks = [[i for i in range(self.count) if labels[i] == name] for name in names]
        for source in blocks:
            for target in blocks:
                if source != target and len({sum(self.value(i, j) for j in target) for i in source}) > 1:
                    return [-33]
        weights = {}
        for a, source in enumerate(blocks):
            if self.continuous:
                row = [sum(self.value(source[-1], j) for j in target) * (source != target) for target in blocks]
            else:
                row = [sum(self.jump(source[0], j) for j in target) for target in blocks]
                row = [share * lcm(*[other.denominator for other in row]) for share in row]
            weights.update({(a, b): int(weight) for b, weight in enumerate(row)})
        if any(weight > 1000000 for weight in weights.values()):
            return [-75]
        self.weights, self.count = weights, len(blocks)
        return [len(blocks)]

    def get_weight(self, i, j):
        return [self.weights[i, j]] if self.in_range(i, j) else [-2]

    def probability(self, i, j):
        return self.fraction(self.jump(i, j)) if self.in_range(i, j) else [-2]

    def generator(self, i, j):
        return self.fraction(self.value(i, j)) if self.in_range(i, j) else [-2]

    def classes(self):
        names = [min(self.members(i)) for i in range(self.count)]
        return [len(set(names))] + names

    def class_info(self, i):
        if not self.in_range(i):
            return [-2]
        members, far = self.members(i), self.distances()
        closed = all(far[i, j] is None or j in members for j in range(self.count))
        return [len(members), int(closed), self.period(i)] + members

    def distance(self, i, j):
        if not self.in_range(i, j):
            return [-2]
        found = self.distances()[i, j]
        return [-33] if found is None else [found]

    def answer(self, call):
        if call[0] != "create" and self.weights is None:
            return [-11]
        return getattr(self, call[0])(*call[1:])


class Maker:
    """Makes lists of calls that are the same on each run, wrong ones among them."""

    NAMES = ("set_weight set_row remove_state uniformize embed lump lump get_weight probability generator "
             "classes class_info class_info distance").split()

    def __init__(self, seed):
        self.draw = random.Random(seed)
        self.count = self.draw.choice([1, 2, 3, 3, 4, 5, 8])
        self.greatest = self.draw.choice([1, 1, 2, 3, 1000000])

    def state(self):
        return self.draw.choice([self.draw.randrange(self.count)] * 12 + [self.count, 4294967295])

    def weight(self):
        return self.draw.choice([0, 0, 0, self.draw.randint(0, self.greatest), self.greatest])

    def row(self, i):
        length = self.draw.choice([self.count] * 15 + [0, self.count + 1, 16])
        return [0 if j == i and self.draw.random() < 0.7 else self.weight() for j in range(length)]

    def labels(self):
        names = [self.draw.randrange(3) for k in range(self.count)]
        return [[0, 4294967295, 7][name] for name in names]

    def call(self):
        name = self.draw.choice(self.NAMES)
        if name == "set_weight":
            return (name, self.state(), self.state(), self.draw.choice([self.weight()] * 9 + [1000001]))
        if name == "set_row":
            i = self.state()
            return (name, i, self.row(i))
        if name in ("remove_state", "class_info"):
            return (name, self.state())
        if name == "uniformize":
            return (name, self.draw.choice([0, 1, 3, 5, 1000000, 1000001]))
        if name == "lump":
            return (name, self.labels())
        if name in ("embed", "classes"):
            return (name,)
        return (name, self.state(), self.state())

    def calls(self):
        made = [("create", self.draw.randrange(2), self.count)]
        made += [("set_row", i, self.row(i)) for i in range(self.count)]
        made += [self.call() for k in range(30)]
        again = ("create", self.draw.randrange(3), self.draw.choice([0, self.count, self.count, 9]))
        return made + [again] + [self.call() for k in range(15)]


class AgainstModel(unittest.TestCase):
    def test_long_lists(self):
        for seed in range(1500):
            calls = Maker(seed).calls()
            model = Model()
            for call, found in zip(calls, helper.run(*calls)):
                self.assertEqual(found, model.answer(call), (seed, call))

    def test_each_chain_of_three_states_with_small_weights(self):
        asked = [("classes",), ("class_info", 0), ("class_info", 1), ("class_info", 2), ("distance", 0, 2),
                 ("distance", 1, 0), ("generator", 1, 1), ("lump", [5, 5, 1]), ("get_weight", 0, 1)]
        for number in range(2 ** 9):
            rows = [[number >> (3 * i + j) & 1 for j in range(3)] for i in range(3)]
            for kind in (0, 1):
                calls = helper.chain(kind, rows) + asked
                model = Model()
                for call, found in zip(calls, helper.run(*calls)):
                    self.assertEqual(found, model.answer(call), (rows, call))


if __name__ == "__main__":
    unittest.main()
