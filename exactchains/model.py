"""The chain, and the instance that holds it."""

from exactchains.ratios import ratio

GREATEST_COUNT = 8
GREATEST_WEIGHT = 1000000
GREATEST_START = 1000000
GREATEST_STEPS = 24


class Chain:
    """A chain: its kind (1 if it is continuous, else 0) and a row of weights for each state."""

    def __init__(self, is_continuous, rows):
        self.is_continuous = is_continuous
        self.rows = rows

    def state_count(self):
        """The number of states."""
        return len(self.rows)

    def has_state(self, i):
        """Whether i is the number of a state."""
        return i < len(self.rows)

    def sum_of(self, i):
        """The sum of the weights of a state."""
        return sum(self.rows[i])

    def greatest_sum(self):
        """The greatest sum of all states."""
        return max([sum(row) for row in self.rows])

    def copied_rows(self):
        """The rows of weights, free to be changed."""
        return [list(row) for row in self.rows]

    def weight_into(self, i, states):
        """The sum of the weights from i to some states."""
        return sum([self.rows[i][j] for j in states])

    def chance_of(self, i, states):
        """The sum of the jump probabilities from i to some states."""
        total = self.sum_of(i)
        if total == 0:
            return (1, 1) if i in states else (0, 1)
        return ratio(self.weight_into(i, states), total)

    def stay_in(self, i):
        """The stay in a state, as a fraction; in a continuous chain for a sum above 0 alone."""
        if self.is_continuous == 1:
            return (1, self.sum_of(i))
        return (1, 1)

    def generator_value(self, i, j):
        """The generator for i and j, as a fraction."""
        if self.is_continuous == 1:
            return (-self.sum_of(i), 1) if i == j else (self.rows[i][j], 1)
        chance = self.chance_of(i, [j])
        if i == j:
            return (chance[0] - chance[1], chance[1])
        return chance


class Instance:
    """What the operations work on: a chain, or None until one is created."""

    def __init__(self):
        self.chain = None
