"""Operations 6 and 23, lump and is_lumpable, and point 4 of the requirements."""

import unittest
from fractions import Fraction

import helper

GREATEST = 4294967295


def step_matrix(made, count):
    """The jump probabilities of the chain that these calls make, as the program answers them."""
    matrix = []
    for i in range(count):
        told = helper.run(*made, *[("probability", i, j) for j in range(count)])[len(made):]
        matrix.append([Fraction(answer[1], answer[2]) for answer in told])
    return matrix


def step(distribution, matrix):
    return [sum(share * row[j] for share, row in zip(distribution, matrix)) for j in range(len(matrix))]


class Lumped(unittest.TestCase):
    def check(self, kind, rows, labels, expected):
        made = helper.chain(kind, rows)
        self.assertEqual(helper.behind(made, ("is_lumpable", labels), ("lump", labels)), [[1], [len(expected)]],
                         (rows, labels))
        self.assertEqual(helper.rows_after(made + [("lump", labels)], len(expected)), (expected, kind))


class Discrete(Lumped):
    ROWS = [[1, 1, 0], [1, 0, 1], [0, 1, 1]]

    def test_ordinary(self):
        self.check(0, self.ROWS, [0, 1, 0], [[1, 1], [1, 0]])
        self.check(0, [[0, 2, 4], [3, 1, 2], [30, 20, 10]], [4, 1, 1], [[0, 1], [1, 1]])

    def test_different_sums_with_the_same_probabilities(self):
        self.check(0, [[6, 2, 4], [10, 20, 10], [5, 0, 15]], [0, 1, 1], [[1, 1], [1, 3]])

    def test_the_smallest_common_denominator(self):
        self.check(0, [[10, 20, 30], [0, 0, 0], [0, 0, 0]], [0, 1, 2], [[1, 2, 3], [0, 1, 0], [0, 0, 1]])
        self.check(0, [[3, 2, 1, 0], [0, 5, 0, 0], [0, 0, 5, 0], [0, 0, 0, 7]], [0, 1, 2, 2],
                   [[3, 2, 1], [0, 1, 0], [0, 0, 1]])
        self.check(0, [[3, 2, 1, 0], [0, 5, 0, 0], [0, 0, 5, 0], [0, 0, 0, 7]], [0, 1, 1, 1], [[1, 1], [0, 1]])

    def test_a_sum_of_0(self):
        self.check(0, [[0, 0], [0, 0]], [0, 1], [[1, 0], [0, 1]])
        self.check(0, [[0, 0], [0, 0]], [3, 3], [[1]])
        self.check(0, [[0, 0, 0], [0, 3, 0], [1, 2, 3]], [8, 8, 5], [[1, 0], [1, 1]])

    def test_one_block(self):
        self.check(0, self.ROWS, [7, 7, 7], [[1]])
        self.check(0, [[0]], [0], [[1]])
        self.check(0, [[1000000] * 8] * 8, [0] * 8, [[1]])

    def test_each_state_a_block(self):
        self.check(0, self.ROWS, [2, 1, 0], self.ROWS)
        self.check(0, [[5]], [GREATEST], [[1]])

    def test_the_smallest_state_tells_the_weights(self):
        self.check(0, [[0, 1, 2], [0, 3, 3], [0, 5, 1]], [0, 1, 1], [[0, 1], [0, 1]])

    def test_a_weight_of_just_1000000(self):
        self.check(0, [[1, 500000, 500000], [0, 1, 0], [0, 0, 1]], [0, 1, 1], [[1, 1000000], [0, 1]])
        self.check(0, [[2, 1000000, 1000000], [0, 1, 0], [0, 0, 1]], [0, 1, 1], [[1, 1000000], [0, 1]])

    def test_a_weight_that_would_be_too_large(self):
        for row in ([1, 500000, 500001], [1, 1000000, 1000000], [3, 1000000, 1000000]):
            made = helper.chain(0, [row, [0, 1, 0], [0, 0, 1]])
            self.assertEqual(helper.last(*made, ("lump", [0, 1, 1])), [-75], row)


class Continuous(Lumped):
    ROWS = [[0, 2, 3], [4, 0, 1], [4, 6, 0]]

    def test_ordinary(self):
        self.check(1, self.ROWS, [0, 1, 1], [[0, 5], [4, 0]])
        self.check(1, [[0, 9, 2], [3, 0, 2], [1, 1, 0]], [6, 6, 3], [[0, 2], [2, 0]])

    def test_one_block(self):
        self.check(1, self.ROWS, [7, 7, 7], [[0]])
        self.check(1, [[0]], [0], [[0]])
        self.check(1, [[1000000 * int(i != j) for j in range(8)] for i in range(8)], [0] * 8, [[0]])

    def test_each_state_a_block(self):
        self.check(1, self.ROWS, [2, 1, 0], self.ROWS)
        self.check(1, [[0, 10], [20, 0]], [5, 4], [[0, 10], [20, 0]])

    def test_no_transitions(self):
        self.check(1, [[0] * 3] * 3, [1, 0, 1], [[0, 0], [0, 0]])

    def test_a_weight_of_just_1000000(self):
        self.check(1, [[0, 1, 999999], [0, 0, 0], [0, 0, 0]], [0, 1, 1], [[0, 1000000], [0, 0]])

    def test_a_weight_that_would_be_too_large(self):
        for row in ([0, 1, 1000000], [0, 1000000, 1000000]):
            made = helper.chain(1, [row, [0, 0, 0], [0, 0, 0]])
            self.assertEqual(helper.last(*made, ("lump", [0, 1, 1])), [-75], row)

    def test_weights_within_a_block_may_be_of_any_size(self):
        rows = [[0, 1000000, 1000000, 1], [0, 0, 0, 1], [7, 0, 0, 1], [0, 0, 0, 0]]
        self.check(1, rows, [0, 0, 0, 1], [[0, 1], [0, 0]])


class Blocks(Lumped):
    def test_order_of_the_smallest_states(self):
        rows = [[0, 1, 2, 3], [4, 0, 5, 6], [7, 8, 0, 9], [3, 5, 11, 0]]
        for labels in ([3, 2, 1, 0], [0, 1, 2, 3], [GREATEST, 0, 5, 4294967294], [16, 8, 9, 1]):
            self.check(1, rows, labels, rows)

    def test_blocks_that_lie_within_one_another(self):
        rows = [[0, 1, 2, 3, 4], [5, 0, 5, 6, 6], [2, 1, 0, 4, 3], [5, 1, 5, 0, 11], [9, 1, 1, 1, 0]]
        for labels in ([0, 1, 0, 2, 2], [GREATEST, 7, GREATEST, 3, 3]):
            self.check(1, rows, labels, [[0, 1, 7], [10, 0, 12], [10, 1, 0]])


class Refused(unittest.TestCase):
    def test_a_list_of_another_length(self):
        for kind in (0, 1):
            for count, lengths in [(1, (0, 2, 16)), (3, (0, 1, 2, 4, 16)), (8, (0, 7, 9, 16))]:
                for length in lengths:
                    self.assertEqual(helper.last(("create", kind, count), ("lump", [0] * length)), [-22])

    def test_not_lumpable(self):
        for kind, rows in [(0, [[1, 1, 0], [1, 0, 1], [0, 1, 1]]), (1, [[0, 1, 0], [1, 0, 1], [0, 2, 0]])]:
            for labels in ([0, 0, 1], [1, 0, 0]):
                self.assertEqual(helper.last(*helper.chain(kind, rows), ("lump", labels)), [-33], (kind, labels))

    def test_the_same_weights_with_different_probabilities(self):
        rows = [[0, 1, 1], [0, 0, 1], [0, 0, 0]]
        self.assertEqual(helper.last(*helper.chain(0, rows), ("lump", [0, 0, 1])), [-33])
        self.assertEqual(helper.last(*helper.chain(1, rows), ("lump", [0, 0, 1])), [2])

    def test_the_same_probabilities_with_different_rates(self):
        rows = [[0, 0, 1], [0, 0, 2], [0, 0, 0]]
        self.assertEqual(helper.last(*helper.chain(0, rows), ("lump", [0, 0, 1])), [2])
        self.assertEqual(helper.last(*helper.chain(1, rows), ("lump", [0, 0, 1])), [-33])

    def test_a_later_state_or_a_later_block_differs(self):
        for kind in (0, 1):
            rows = [[0, 0, 0, 1], [0, 0, 0, 1], [0, 0, 0, 0], [0, 0, 0, 0]]
            self.assertEqual(helper.last(*helper.chain(kind, rows), ("lump", [5, 5, 5, 6])), [-33])
            rows = [[0, 0, 0, 1], [0, 0, 1, 0], [0, 0, 0, 0], [0, 0, 0, 0]]
            self.assertEqual(helper.last(*helper.chain(kind, rows), ("lump", [1, 1, 2, 3])), [-33])
            self.assertEqual(helper.last(*helper.chain(kind, rows), ("lump", [1, 1, 2, 2])), [2])

    def test_the_order_of_errors(self):
        rows = [[0, 1000000, 1000000, 1], [0, 0, 0, 0], [0, 0, 0, 5], [0, 0, 0, 0]]
        for kind in (0, 1):
            self.assertEqual(helper.last(*helper.chain(kind, rows), ("lump", [0, 1, 1])), [-22])
            self.assertEqual(helper.last(*helper.chain(kind, rows), ("lump", [0, 1, 1, 2])), [-33])
            rows[2][3] = 0
            self.assertEqual(helper.last(*helper.chain(kind, rows), ("lump", [0, 1, 1, 2])), [-75])
            rows[2][3] = 5


class IsLumpable(unittest.TestCase):
    """The ordinary partitions that are lumpable are asked for beside lump, above."""

    def check(self, kind, rows, labels, expected):
        self.assertEqual(helper.last(*helper.chain(kind, rows), ("is_lumpable", labels)), expected, (rows, labels))

    def test_a_list_of_another_length(self):
        for count, lengths in [(1, (0, 2, 16)), (3, (0, 1, 2, 4, 16)), (8, (0, 7, 9, 16))]:
            for kind in (0, 1):
                for length in lengths:
                    self.check(kind, [[0] * count] * count, [0] * length, [-22])

    def test_all_labels_may_be(self):
        for kind in (0, 1):
            for labels in ([GREATEST, 0, GREATEST], [8, 9, 8], [1000001, 7, 1000001]):
                self.check(kind, [[0, 1, 2], [5, 0, 5], [2, 1, 0]], labels, [1])

    def test_one_block_and_each_state_a_block(self):
        rows = [[0, 1, 2, 3], [4, 0, 5, 6], [7, 8, 0, 9], [3, 5, 11, 0]]
        for kind in (0, 1):
            for labels in ([0, 0, 0, 0], [4, 3, 2, 1]):
                self.check(kind, rows, labels, [1])
            for labels in ([0, 0, 1, 2], [0, 0, 0, 1], [1, 0, 1, 0], [0, 1, 1, 0]):
                self.check(kind, rows, labels, [0])

    def test_the_kind_of_the_chain_counts(self):
        for labels in ([0, 0, 1], [7, 7, 3]):
            self.check(0, [[0, 1, 1], [0, 0, 1], [0, 0, 0]], labels, [0])
            self.check(1, [[0, 1, 1], [0, 0, 1], [0, 0, 0]], labels, [1])
            self.check(0, [[0, 0, 1], [0, 0, 2], [0, 0, 0]], labels, [1])
            self.check(1, [[0, 0, 1], [0, 0, 2], [0, 0, 0]], labels, [0])

    def test_a_later_state_or_a_later_block_differs(self):
        for kind in (0, 1):
            self.check(kind, [[0, 0, 0, 1], [0, 0, 0, 1], [0, 0, 0, 0], [0, 0, 0, 0]], [5, 5, 5, 6], [0])
            self.check(kind, [[0, 0, 0, 1], [0, 0, 1, 0], [0, 0, 0, 0], [0, 0, 0, 0]], [1, 1, 2, 3], [0])
            self.check(kind, [[0, 0, 0, 1], [0, 0, 1, 0], [0, 0, 0, 0], [0, 0, 0, 0]], [1, 1, 2, 2], [1])

    def test_a_sum_of_0(self):
        self.check(0, [[0, 0, 0], [0, 3, 0], [1, 2, 3]], [8, 8, 5], [1])
        self.check(0, [[0, 0, 0], [0, 3, 1], [1, 2, 3]], [8, 8, 5], [0])

    def test_weights_that_would_be_too_large_are_without_effect(self):
        for kind in (0, 1):
            rows = [[0, 1000000, 1000000, 1], [0, 0, 0, 0], [0, 0, 0, 0], [0, 0, 0, 0]]
            self.check(kind, rows, [0, 1, 1, 2], [1])

    def test_one_and_eight_states(self):
        for kind in (0, 1):
            self.check(kind, [[0]], [GREATEST], [1])
            self.check(kind, [[int(j == (i + 1) % 8) for j in range(8)] for i in range(8)], [0, 1] * 4, [1])
            self.check(kind, [[int(j == (i + 1) % 8) for j in range(8)] for i in range(8)], [0, 0, 1, 1] * 2, [0])


class Distributions(unittest.TestCase):
    """Point 4: the blocks of a discrete chain are distributed as the states of the lumped one."""

    CHAINS = [
        ([[1, 1, 0], [1, 0, 1], [0, 1, 1]], [0, 1, 0]),
        ([[6, 2, 4], [10, 20, 10], [5, 0, 15]], [9, 3, 3]),
        ([[0, 0, 0], [0, 3, 0], [1, 2, 3]], [8, 8, 5]),
        ([[0, 1, 2, 3], [1, 0, 3, 2], [1, 2, 3, 0], [0, 6, 0, 6]], [1, 1, 0, 0]),
        ([[int(bin(i ^ j).count("1") == 1) for j in range(8)] for i in range(8)],
         [bin(i).count("1") for i in range(8)])]

    def test_after_some_steps(self):
        for rows, labels in self.CHAINS:
            names = sorted(set(labels), key=labels.index)
            made = helper.chain(0, rows)
            self.assertEqual(helper.last(*made, ("lump", labels)), [len(names)], (rows, labels))
            matrix = step_matrix(made, len(rows))
            lumped = step_matrix(made + [("lump", labels)], len(names))
            for start in range(len(rows)):
                distribution = [Fraction(int(i == start)) for i in range(len(rows))]
                blocks = [Fraction(int(name == labels[start])) for name in names]
                for steps in range(6):
                    expected = [sum(share for share, label in zip(distribution, labels) if label == name)
                                for name in names]
                    self.assertEqual(blocks, expected, (rows, labels, start, steps))
                    distribution = step(distribution, matrix)
                    blocks = step(blocks, lumped)

    def test_as_after_steps_answers(self):
        for rows, labels in self.CHAINS:
            names = sorted(set(labels), key=labels.index)
            made = helper.chain(0, rows)
            start = [3 * i % 7 + 1 for i in range(len(rows))]
            blocks = [sum(share for share, label in zip(start, labels) if label == name) for name in names]
            for steps in (0, 1, 2, 9, 24):
                told = helper.last(*made, ("after_steps", steps, start))
                shares = helper.fractions_of(told[1:])
                expected = [sum(share for share, label in zip(shares, labels) if label == name) for name in names]
                told = helper.last(*made, ("lump", labels), ("after_steps", steps, blocks))
                self.assertEqual(told[0], len(names))
                self.assertEqual(helper.fractions_of(told[1:]), expected, (rows, labels, steps))


if __name__ == "__main__":
    unittest.main()
