"""Long lists of calls, compared with a second program that follows the words in other ways."""

import random
import unittest
from fractions import Fraction
from math import gcd, lcm

import helper


def determinant(rows):
    """The determinant of a square of fractions."""
    rows = [list(row) for row in rows]
    value = Fraction(1)
    while rows:
        pivot = next((row for row in rows if row[0]), None)
        if pivot is None:
            return Fraction(0)
        value *= pivot[0] * (-1) ** rows.index(pivot)
        rows = [[number - row[0] / pivot[0] * other for number, other in zip(row[1:], pivot[1:])]
                for row in rows if row is not pivot]
    return value


class Model:
    """A chain as a dict of weights; each operation is worked out anew from the words."""

    def __init__(self):
        self.weights = None
        self.count = 0
        self.continuous = 0

    def total(self, i):
        return sum(self.weights[i, j] for j in range(self.count))

    def jump(self, i, j):
        total = self.total(i)
        return Fraction(self.weights[i, j], total) if total else Fraction(int(i == j))

    def value(self, i, j):
        if self.continuous:
            return Fraction(-self.total(i) if i == j else self.weights[i, j])
        return self.jump(i, j) - int(i == j)

    def distances(self):
        """All distances, by shortening ways over each state in turn."""
        states = range(self.count)
        far = {(i, j): 0 if i == j else 1 if self.weights[i, j] else None for i in states for j in states}
        for over in states:
            for i in states:
                for j in states:
                    if far[i, over] is not None and far[over, j] is not None:
                        length = far[i, over] + far[over, j]
                        far[i, j] = length if far[i, j] is None else min(far[i, j], length)
        return far

    def members(self, i):
        far = self.distances()
        return [j for j in range(self.count) if far[i, j] is not None and far[j, i] is not None]

    def period(self, i):
        """The divisor of the lengths of all ways from i to i that are long enough to take any cycle along."""
        at, period = {i}, 0
        for length in range(1, 3 * self.count + 1):
            at = {k for j in at for k in range(self.count) if self.weights[j, k]}
            if i in at:
                period = gcd(period, length)
        return period

    def closed(self, i):
        far = self.distances()
        return all(far[i, j] is None or far[j, i] is not None for j in range(self.count))

    def closed_classes(self):
        return [self.members(i) for i in range(self.count) if self.closed(i) and self.members(i)[0] == i]

    def shortened(self, keep, cost):
        """Probabilities and mean costs between kept states, when all others are taken out one by one.

        A jump into a state that is never left again is lost; cost is what each visit of a state costs.
        """
        states = list(range(self.count))
        jump = {(i, j): self.jump(i, j) for i in states for j in states}
        cost = dict(cost)
        for out in [k for k in range(self.count) if k not in keep]:
            states.remove(out)
            times = 1 / (1 - jump[out, out]) if jump[out, out] != 1 else 0
            for i in states:
                cost[i] += jump[i, out] * times * cost[out]
                for j in states:
                    jump[i, j] += jump[i, out] * times * jump[out, j]
        return jump, cost

    def hits(self, i, targets):
        """The hitting probability: what leaves i for ever, without or with the set."""
        if i in targets:
            return Fraction(1)
        jump = self.shortened([i] + targets, {k: 0 for k in range(self.count)})[0]
        return sum(jump[i, j] for j in targets) / (1 - jump[i, i]) if jump[i, i] != 1 else Fraction(0)

    def stay(self, i):
        return Fraction(1) if not self.continuous else Fraction(1, self.total(i))

    def stationary_values(self, members):
        """Each state's share is that of the minor of the generator without it, as the tree theorem tells."""
        minors = {i: abs(determinant([[self.value(j, k) for k in members if k != i] for j in members if j != i]))
                  for i in members}
        return [minors.get(i, Fraction(0)) / sum(minors.values()) for i in range(self.count)]

    def blocks(self, labels):
        names = sorted(set(labels), key=labels.index)
        return [[i for i in range(self.count) if labels[i] == name] for name in names]

    def lumps(self, blocks):
        return all(len({sum(self.value(i, j) for j in target) for i in source}) == 1
                   for source in blocks for target in blocks if source != target)

    def in_range(self, *states):
        return all(state < self.count for state in states)

    def is_set(self, states):
        return bool(states) and self.in_range(*states) and all(states.count(state) == 1 for state in states)

    def fits(self, i, j, weight):
        return weight <= 1000000 and not (self.continuous and i == j and weight)

    def fraction(self, value):
        return [0, value.numerator, value.denominator]

    def fractions(self, values):
        return [len(values)] + [number for value in values for number in (value.numerator, value.denominator)]

    def create(self, continuous, count):
        if continuous not in (0, 1) or not 1 <= count <= 8:
            return [-22]
        self.continuous, self.count = continuous, count
        self.weights = {(i, j): 0 for i in range(count) for j in range(count)}
        return [0]

    def set_weight(self, i, j, weight):
        if not self.in_range(i, j):
            return [-2]
        if not self.fits(i, j, weight):
            return [-22]
        old, self.weights[i, j] = self.weights[i, j], weight
        return [old]

    def set_row(self, i, weights):
        if not self.in_range(i):
            return [-2]
        if len(weights) != self.count or not all(self.fits(i, j, weight) for j, weight in enumerate(weights)):
            return [-22]
        for j, weight in enumerate(weights):
            self.weights[i, j] = weight
        return [sum(weights)]

    def remove_state(self, i):
        if not self.in_range(i):
            return [-2]
        if self.count == 1:
            return [-33]
        self.weights = {(j - (j > i), k - (k > i)): weight for (j, k), weight in self.weights.items() if i not in (j, k)}
        self.count -= 1
        return [self.count]

    def uniformize(self, rate):
        if not self.continuous:
            return [-33]
        sums = [self.total(i) for i in range(self.count)]
        if not max(1, *sums) <= rate <= 1000000:
            return [-22]
        for i in range(self.count):
            self.weights[i, i] = rate - sums[i]
        self.continuous = 0
        return [max(sums)]

    def embed(self):
        was, self.continuous = self.continuous, 0
        for i in range(self.count):
            self.weights[i, i] = 0
        return [was]

    def lump(self, labels):
        if len(labels) != self.count:
            return [-22]
        blocks = self.blocks(labels)
        if not self.lumps(blocks):
            return [-33]
        weights = {}
        for a, source in enumerate(blocks):
            if self.continuous:
                row = [sum(self.value(source[-1], j) for j in target) * (source != target) for target in blocks]
            else:
                row = [sum(self.jump(source[0], j) for j in target) for target in blocks]
                row = [share * lcm(*[other.denominator for other in row]) for share in row]
            weights.update({(a, b): int(weight) for b, weight in enumerate(row)})
        if any(weight > 1000000 for weight in weights.values()):
            return [-75]
        self.weights, self.count = weights, len(blocks)
        return [len(blocks)]

    def get_weight(self, i, j):
        return [self.weights[i, j]] if self.in_range(i, j) else [-2]

    def probability(self, i, j):
        return self.fraction(self.jump(i, j)) if self.in_range(i, j) else [-2]

    def generator(self, i, j):
        return self.fraction(self.value(i, j)) if self.in_range(i, j) else [-2]

    def classes(self):
        names = [min(self.members(i)) for i in range(self.count)]
        return [len(set(names))] + names

    def class_info(self, i):
        if not self.in_range(i):
            return [-2]
        members = self.members(i)
        return [len(members), int(self.closed(i)), self.period(i)] + members

    def distance(self, i, j):
        if not self.in_range(i, j):
            return [-2]
        found = self.distances()[i, j]
        return [-33] if found is None else [found]

    def stationary(self, i):
        if not self.in_range(i):
            return [-2]
        return self.fractions(self.stationary_values(self.members(i))) if self.closed(i) else [-33]

    def hitting_probability(self, i, targets):
        if not self.in_range(i):
            return [-2]
        return self.fraction(self.hits(i, targets)) if self.is_set(targets) else [-22]

    def hitting_time(self, i, targets):
        if not self.in_range(i):
            return [-2]
        if not self.is_set(targets):
            return [-22]
        if self.hits(i, targets) != 1:
            return [-33]
        if i in targets:
            return [0, 0, 1]
        cost = {k: self.stay(k) if self.total(k) else 0 for k in range(self.count)}
        jump, cost = self.shortened([i] + targets, cost)
        return self.fraction(cost[i] / (1 - jump[i, i]))

    def absorption(self, i):
        if not self.in_range(i):
            return [-2]
        told = [len(self.closed_classes())]
        for members in self.closed_classes():
            told += [members[0]] + self.fraction(self.hits(i, members))[1:]
        return told

    def return_time(self, i):
        if not self.in_range(i):
            return [-2]
        if not self.closed(i) or self.continuous and not self.total(i):
            return [-33]
        return self.fraction(self.shortened([i], {k: self.stay(k) if self.total(k) or not self.continuous else 0
                                                  for k in range(self.count)})[1][i])

    def visits(self, i, j):
        if not self.in_range(i, j):
            return [-2]
        if self.distances()[i, j] is None:
            return [0, 0, 1]
        if self.closed(j):
            return [-33]
        jump = self.shortened([i, j], {k: 0 for k in range(self.count)})[0]
        if i == j:
            return self.fraction(1 / (1 - jump[j, j]))
        # The equations of the visits of j from i and from j, solved for the first.
        return self.fraction(jump[i, j] / ((1 - jump[i, i]) * (1 - jump[j, j]) - jump[i, j] * jump[j, i]))

    def long_run(self, i):
        if not self.in_range(i):
            return [-2]
        shares = [Fraction(0)] * self.count
        for members in self.closed_classes():
            chance = self.hits(i, members)
            shares = [old + chance * new for old, new in zip(shares, self.stationary_values(members))]
        return self.fractions(shares)

    def after_steps(self, steps, start):
        if steps > 24 or len(start) != self.count or any(n > 1000000 for n in start) or not any(start):
            return [-22]
        most = max(self.total(i) for i in range(self.count))
        if self.continuous and not most:
            return [-33]
        shares = [Fraction(number, sum(start)) for number in start]
        for step in range(steps):
            moved = [sum(share * self.value(i, j) for i, share in enumerate(shares)) for j in range(self.count)]
            shares = [share + change / (most if self.continuous else 1) for share, change in zip(shares, moved)]
        return self.fractions(shares)

    def is_reversible(self, i):
        if not self.in_range(i):
            return [-2]
        if not self.closed(i):
            return [-33]
        backwards = [self.reversed(j, k) for j in self.members(i) for k in self.members(i)]
        return [int(backwards == [self.generator(j, k) for j in self.members(i) for k in self.members(i)])]

    def reversed(self, i, j):
        if not self.in_range(i, j):
            return [-2]
        if not self.closed(i) or j not in self.members(i):
            return [-33]
        values = self.stationary_values(self.members(i))
        return self.fraction(values[j] * self.value(j, i) / values[i])

    def is_lumpable(self, labels):
        return [int(self.lumps(self.blocks(labels)))] if len(labels) == self.count else [-22]

    def watched(self, i, j, members):
        if not self.in_range(i, j):
            return [-2]
        if not self.is_set(members):
            return [-22]
        if i not in members or j not in members:
            return [-33]
        return self.fraction(self.shortened(members, {k: 0 for k in range(self.count)})[0][i, j])

    def summary(self):
        return [self.count, self.continuous, self.classes()[0], len(self.closed_classes()),
                max(self.total(i) for i in range(self.count))]

    def answer(self, call):
        if call[0] != "create" and self.weights is None:
            return [-11]
        return getattr(self, call[0])(*call[1:])


class Maker:
    """Makes lists of calls that are the same on each run, wrong ones among them."""

    CHANGES = "set_weight set_row remove_state uniformize embed lump".split()
    LOOKUPS = ("get_weight probability generator classes class_info distance stationary hitting_probability "
               "hitting_time absorption return_time visits long_run after_steps is_reversible reversed "
               "is_lumpable watched summary").split()

    def __init__(self, seed):
        self.draw = random.Random(seed)
        self.count = self.draw.choice([1, 2, 3, 3, 4, 5, 8])
        self.greatest = self.draw.choice([1, 1, 2, 3, 1000000])
        self.none = self.draw.choice([1, 3, 8])

    def state(self):
        return self.draw.choice([self.draw.randrange(self.count)] * 12 + [self.count, 4294967295])

    def weight(self):
        return self.draw.choice([0] * self.none + [self.draw.randint(0, self.greatest), self.greatest])

    def row(self, i):
        length = self.draw.choice([self.count] * 15 + [0, self.count + 1, 16])
        return [0 if j == i and self.draw.random() < 0.7 else self.weight() for j in range(length)]

    def labels(self):
        names = [self.draw.randrange(3) for k in range(self.draw.choice([self.count] * 9 + [0, 16]))]
        return [[0, 4294967295, 7][name] for name in names]

    def states(self):
        if self.draw.random() < 0.1:
            return [self.state() for k in range(self.draw.randrange(5))]
        return self.draw.sample(range(self.count), self.draw.randint(1, min(self.count, 3)))

    def start(self):
        length = self.draw.choice([self.count] * 12 + [0, self.count + 1, 16])
        return [self.draw.choice([0, 1, 2, 7, 1000000]) for k in range(length)]

    def change(self):
        name = self.draw.choice(self.CHANGES)
        if name == "set_weight":
            return (name, self.state(), self.state(), self.draw.choice([self.weight()] * 9 + [1000001]))
        if name == "set_row":
            i = self.state()
            return (name, i, self.row(i))
        if name == "remove_state":
            return (name, self.state())
        if name == "uniformize":
            return (name, self.draw.choice([0, 1, 3, 5, 1000000, 1000001]))
        return (name, self.labels()) if name == "lump" else (name,)

    def lookup(self, name):
        if name in ("classes", "summary"):
            return (name,)
        if name in ("hitting_probability", "hitting_time"):
            return (name, self.state(), self.states())
        if name == "after_steps":
            return (name, self.draw.choice([0, 1, 2, 3, 7, 24, 25]), self.start())
        if name == "is_lumpable":
            return (name, self.labels())
        if name == "watched":
            states = self.states()
            return (name, self.draw.choice(states + [0]), self.draw.choice(states + [self.state()]), states)
        if name in ("class_info", "stationary", "absorption", "return_time", "long_run", "is_reversible"):
            return (name, self.state())
        return (name, self.state(), self.state())

    def calls(self):
        """A chain, each operation that looks up, in any order, changes among them, and all of it once more."""
        made = []
        for again in range(2):
            made.append(("create", self.draw.randrange(2 + again), self.draw.choice([self.count] * 9 + [again * 9])))
            made += [("set_row", i, self.row(i)) for i in range(min(self.count, 6))]
            lookups = [self.lookup(name) for name in self.draw.sample(self.LOOKUPS, len(self.LOOKUPS))]
            place = self.draw.randrange(len(lookups))
            made += lookups[:place] + [self.change() for k in range(3)] + lookups[place:]
        return made


class AgainstModel(unittest.TestCase):
    def test_long_lists(self):
        seen = {}
        for seed in range(700):
            calls = Maker(seed).calls()
            model = Model()
            for call, found in zip(calls, helper.run(*calls)):
                self.assertEqual(found, model.answer(call), (seed, call))
                seen.setdefault(call[0], set()).add(min(found[0], 0))
        # Each operation was answered, and refused for each of its reasons.
        reasons = {"create": {-22}, "set_weight": {-11, -2, -22}, "uniformize": {-11, -33, -22},
                   "lump": {-11, -22, -33}, "classes": {-11}, "embed": {-11}, "summary": {-11},
                   "set_row": {-11, -2, -22}, "remove_state": {-11, -2, -33}, "distance": {-11, -2, -33},
                   "stationary": {-11, -2, -33}, "hitting_probability": {-11, -2, -22},
                   "hitting_time": {-11, -2, -22, -33}, "return_time": {-11, -2, -33}, "visits": {-11, -2, -33},
                   "after_steps": {-11, -22, -33}, "is_reversible": {-11, -2, -33}, "reversed": {-11, -2, -33},
                   "is_lumpable": {-11, -22}, "watched": {-11, -2, -22, -33}}
        for name in helper.NUMBERS:
            self.assertEqual(seen[name] - {-75}, reasons.get(name, {-11, -2}) | {0}, name)

    def test_each_chain_of_three_states_with_small_weights(self):
        asked = [("classes",), ("class_info", 0), ("class_info", 1), ("class_info", 2), ("distance", 0, 2),
                 ("distance", 1, 0), ("generator", 1, 1), ("stationary", 0), ("hitting_probability", 0, [2]),
                 ("hitting_time", 1, [2, 0]), ("hitting_time", 0, [1]), ("absorption", 1), ("return_time", 2),
                 ("visits", 0, 1), ("visits", 2, 2), ("long_run", 1), ("after_steps", 2, [1, 2, 3]),
                 ("is_reversible", 1), ("reversed", 0, 1), ("reversed", 2, 2), ("is_lumpable", [5, 5, 1]),
                 ("watched", 0, 2, [2, 0]), ("watched", 1, 1, [1]), ("summary",), ("lump", [5, 5, 1]),
                 ("get_weight", 0, 1)]
        for number in range(2 ** 9):
            rows = [[number >> (3 * i + j) & 1 for j in range(3)] for i in range(3)]
            for kind in (0, 1):
                calls = helper.chain(kind, rows) + asked
                model = Model()
                for call, found in zip(calls, helper.run(*calls)):
                    self.assertEqual(found, model.answer(call), (rows, call))


if __name__ == "__main__":
    unittest.main()
