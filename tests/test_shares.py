"""Operations 13, 17 and 19 to 22: stationary, return_time, long_run, after_steps, is_reversible, reversed."""

import unittest
from fractions import Fraction

import helper

GREATEST = helper.GREATEST
KINDS = (0, 1)
NO_STATES = (3, 4, 8, GREATEST)

# 0 leads to the cycle of 1 and 2 and to 3, which is never left.
LEADING = [[0, 1, 0, 2], [0, 0, 1, 0], [0, 1, 0, 0], [0, 0, 0, 0]]
# Continuous: from 0 at the rate 1 to 1, from there at the rate 2 to 2, and at the rate 4 back.
ROUND = [[0, 1, 0], [0, 0, 2], [4, 0, 0]]
# From 0 each state leads to the next one with a probability of 1 to 1000001, else back to 0.
STAIRS = [[1000000 * int(j == 0) + int(j == i + 1) for j in range(8)] for i in range(7)] + [[1] + [0] * 7]


class Shares(unittest.TestCase):
    def check(self, made, *calls_and_answers):
        """Each call behind those that make the chain has its answer."""
        for call, expected in calls_and_answers:
            self.assertEqual(helper.last(*made, call), expected, call)


class Stationary(Shares):
    def test_discrete(self):
        self.check(helper.chain(0, [[1, 3], [1, 0]]), (("stationary", 0), [2, 4, 7, 3, 7]))
        self.check(helper.chain(0, [[0, 2], [3, 0]]), (("stationary", 1), [2, 1, 2, 1, 2]))
        self.check(helper.chain(0, [[5, 5, 0], [2, 0, 2], [0, 7, 7]]), (("stationary", 2), [3, 1, 3, 1, 3, 1, 3]))
        self.check(helper.chain(0, ROUND), (("stationary", 0), [3, 1, 3, 1, 3, 1, 3]))

    def test_continuous(self):
        self.check(helper.chain(1, [[0, 2], [3, 0]]), (("stationary", 0), [2, 3, 5, 2, 5]))
        self.check(helper.chain(1, ROUND), (("stationary", 0), [3, 4, 7, 2, 7, 1, 7]),
                   (("stationary", 2), [3, 4, 7, 2, 7, 1, 7]))
        self.check(helper.chain(1, [[0, 1, 1], [2, 0, 0], [4, 0, 0]]), (("stationary", 0), [3, 4, 7, 2, 7, 1, 7]))

    def test_several_closed_classes(self):
        for kind in KINDS:
            self.check(helper.chain(kind, LEADING), (("stationary", 1), [4, 0, 1, 1, 2, 1, 2, 0, 1]),
                       (("stationary", 2), [4, 0, 1, 1, 2, 1, 2, 0, 1]),
                       (("stationary", 3), [4, 0, 1, 0, 1, 0, 1, 1, 1]), (("stationary", 0), [-33]))

    def test_weights_that_lead_into_the_class_are_without_effect(self):
        self.check(helper.chain(1, [[0, 7, 9], [0, 0, 2], [0, 3, 0]]), (("stationary", 1), [3, 0, 1, 3, 5, 2, 5]))

    def test_a_state_by_itself(self):
        for kind in KINDS:
            self.check([("create", kind, 2)], (("stationary", 0), [2, 1, 1, 0, 1]),
                       (("stationary", 1), [2, 0, 1, 1, 1]))
        self.check(helper.chain(0, [[6, 0], [1, 1]]), (("stationary", 0), [2, 1, 1, 0, 1]), (("stationary", 1), [-33]))

    def test_one_and_eight_states(self):
        for kind in KINDS:
            self.check([("create", kind, 1)], (("stationary", 0), [1, 1, 1]))
            self.check(helper.chain(kind, helper.cycle(8)), (("stationary", 5), [8] + [1, 8] * 8))
        self.check(helper.chain(0, [[4]]), (("stationary", 0), [1, 1, 1]))

    def test_more_than_64_bits(self):
        told = helper.last(*helper.chain(0, STAIRS), ("stationary", 0))
        total = sum(1000001 ** k for k in range(8))
        self.assertEqual(told[0], 8)
        self.assertEqual(helper.fractions_of(told[1:]), [Fraction(1000001 ** (7 - i), total) for i in range(8)])

    def test_errors(self):
        for kind in KINDS:
            for i in NO_STATES:
                self.check([("create", kind, 3)], (("stationary", i), [-2]))
            self.check(helper.chain(kind, [[0, 1], [0, 0]]), (("stationary", 0), [-33]), (("stationary", 2), [-2]))


class ReturnTime(Shares):
    def test_discrete(self):
        self.check(helper.chain(0, [[1, 3], [1, 0]]), (("return_time", 0), [0, 7, 4]), (("return_time", 1), [0, 7, 3]))
        self.check(helper.chain(0, ROUND), (("return_time", 1), [0, 3, 1]))

    def test_continuous(self):
        made = helper.chain(1, ROUND)
        for i in range(3):
            self.check(made, (("return_time", i), [0, 7, 4]))
        self.check(helper.chain(1, [[0, 1, 1], [2, 0, 0], [4, 0, 0]]), (("return_time", 0), [0, 7, 8]),
                   (("return_time", 1), [0, 7, 4]), (("return_time", 2), [0, 7, 4]))

    def test_several_closed_classes(self):
        for kind in KINDS:
            self.check(helper.chain(kind, LEADING), (("return_time", 1), [0, 2, 1]), (("return_time", 0), [-33]))

    def test_a_sum_of_0(self):
        self.check([("create", 0, 2)], (("return_time", 0), [0, 1, 1]), (("return_time", 1), [0, 1, 1]))
        self.check([("create", 1, 2)], (("return_time", 0), [-33]), (("return_time", 1), [-33]))
        self.check(helper.chain(0, LEADING), (("return_time", 3), [0, 1, 1]))
        self.check(helper.chain(1, LEADING), (("return_time", 3), [-33]))

    def test_one_and_eight_states(self):
        self.check([("create", 0, 1)], (("return_time", 0), [0, 1, 1]))
        self.check([("create", 1, 1)], (("return_time", 0), [-33]))
        self.check(helper.chain(0, [[4]]), (("return_time", 0), [0, 1, 1]))
        for kind in KINDS:
            self.check(helper.chain(kind, helper.cycle(8)), (("return_time", 7), [0, 8, 1]))

    def test_more_than_64_bits(self):
        self.check(helper.chain(0, STAIRS), (("return_time", 7), [0, sum(1000001 ** k for k in range(8)), 1]))

    def test_errors(self):
        for kind in KINDS:
            for i in NO_STATES:
                self.check([("create", kind, 3)], (("return_time", i), [-2]))


class LongRun(Shares):
    def test_several_closed_classes(self):
        for kind in KINDS:
            self.check(helper.chain(kind, LEADING), (("long_run", 0), [4, 0, 1, 1, 6, 1, 6, 2, 3]),
                       (("long_run", 1), [4, 0, 1, 1, 2, 1, 2, 0, 1]), (("long_run", 3), [4, 0, 1, 0, 1, 0, 1, 1, 1]))

    def test_one_class(self):
        for i in range(3):
            self.check(helper.chain(1, ROUND), (("long_run", i), [3, 4, 7, 2, 7, 1, 7]))
            self.check(helper.chain(0, ROUND), (("long_run", i), [3, 1, 3, 1, 3, 1, 3]))

    def test_the_kind_of_the_chain_shows_in_the_class_alone(self):
        rows = [[0, 5, 0, 1], [0, 0, 1, 0], [0, 2, 0, 0], [0, 0, 0, 0]]
        self.check(helper.chain(0, rows), (("long_run", 0), [4, 0, 1, 5, 12, 5, 12, 1, 6]))
        self.check(helper.chain(1, rows), (("long_run", 0), [4, 0, 1, 5, 9, 5, 18, 1, 6]))

    def test_one_and_eight_states(self):
        for kind in KINDS:
            self.check([("create", kind, 1)], (("long_run", 0), [1, 1, 1]))
            self.check(helper.chain(kind, helper.walk(8)), (("long_run", 2), [8, 5, 7] + [0, 1] * 6 + [2, 7]))
            self.check([("create", kind, 8)], (("long_run", 7), [8] + [0, 1] * 7 + [1, 1]))
        self.check(helper.chain(0, [[4]]), (("long_run", 0), [1, 1, 1]))

    def test_errors(self):
        for kind in KINDS:
            for i in NO_STATES:
                self.check([("create", kind, 3)], (("long_run", i), [-2]))


class AfterSteps(Shares):
    def test_discrete(self):
        made = helper.chain(0, [[1, 1, 0], [1, 0, 1], [0, 1, 1]])
        self.check(made, (("after_steps", 0, [1, 0, 0]), [3, 1, 1, 0, 1, 0, 1]),
                   (("after_steps", 1, [1, 0, 0]), [3, 1, 2, 1, 2, 0, 1]),
                   (("after_steps", 2, [1, 0, 0]), [3, 1, 2, 1, 4, 1, 4]),
                   (("after_steps", 3, [1, 0, 0]), [3, 3, 8, 3, 8, 1, 4]),
                   (("after_steps", 1, [2, 3, 5]), [3, 1, 4, 7, 20, 2, 5]))

    def test_continuous(self):
        made = helper.chain(1, [[0, 2], [3, 0]])
        self.check(made, (("after_steps", 0, [1, 0]), [2, 1, 1, 0, 1]),
                   (("after_steps", 1, [1, 0]), [2, 1, 3, 2, 3]), (("after_steps", 1, [0, 1]), [2, 1, 1, 0, 1]),
                   (("after_steps", 2, [1, 0]), [2, 7, 9, 2, 9]), (("after_steps", 1, [3, 2]), [2, 3, 5, 2, 5]))
        self.check(helper.chain(1, LEADING), (("after_steps", 1, [3, 0, 0, 0]), [4, 0, 1, 1, 3, 0, 1, 2, 3]),
                   (("after_steps", 1, [0, 1, 0, 0]), [4, 0, 1, 2, 3, 1, 3, 0, 1]),
                   (("after_steps", 2, [0, 0, 0, 1]), [4, 0, 1, 0, 1, 0, 1, 1, 1]))

    def test_start_is_told_up_to_a_factor(self):
        for kind in KINDS:
            made = helper.chain(kind, ROUND)
            for steps in (0, 1, 5, 24):
                expected = helper.last(*made, ("after_steps", steps, [1, 2, 0]))
                for start in ([2, 4, 0], [500000, 1000000, 0]):
                    self.check(made, (("after_steps", steps, start), expected))
            self.check(made, (("after_steps", 0, [1000000, 1000000, 1000000]), [3, 1, 3, 1, 3, 1, 3]),
                       (("after_steps", 0, [1000000, 1, 0]), [3, 1000000, 1000001, 1, 1000001, 0, 1]))

    def test_a_sum_of_0(self):
        self.check([("create", 0, 2)], (("after_steps", 24, [1, 3]), [2, 1, 4, 3, 4]))
        self.check(helper.chain(0, [[0, 0], [1, 1]]), (("after_steps", 2, [0, 5]), [2, 3, 4, 1, 4]))
        self.check(helper.chain(1, [[0, 0], [9, 0]]), (("after_steps", 1, [1, 1]), [2, 1, 1, 0, 1]))

    def test_a_continuous_chain_without_transitions(self):
        for count in (1, 2, 8):
            for steps in (0, 1, 24):
                self.check([("create", 1, count)], (("after_steps", steps, [1] * count), [-33]))

    def test_round_a_cycle(self):
        for kind in KINDS:
            made = helper.chain(kind, helper.cycle(8))
            for steps in (0, 1, 7, 8, 23, 24):
                expected = [8] + [number for i in range(8) for number in (int(i == (3 + steps) % 8), 1)]
                self.check(made, (("after_steps", steps, [0, 0, 0, 7, 0, 0, 0, 0]), expected))

    def test_one_state(self):
        for rows in ([[0]], [[4]]):
            for steps in (0, 1, 24):
                self.check(helper.chain(0, rows), (("after_steps", steps, [1000000]), [1, 1, 1]))

    def test_more_than_64_bits(self):
        told = helper.last(*helper.chain(0, STAIRS), ("after_steps", 7, [1] + [0] * 7))
        self.assertEqual(told[-2:], [1, 1000001 ** 7])
        rows = [[999983, 17, 5], [3, 999979, 1], [2, 7, 999961]]
        for kind in KINDS:
            kept = [[0 if i == j and kind else weight for j, weight in enumerate(row)] for i, row in enumerate(rows)]
            most = max(sum(row) for row in kept)
            matrix = [[Fraction(weight, most if kind else sum(row)) for weight in row] for row in kept]
            for i in range(3):
                matrix[i][i] += 1 - sum(matrix[i])
            shares = [Fraction(1, 4), Fraction(3, 4), Fraction(0)]
            for step in range(24):
                shares = [sum(shares[i] * matrix[i][j] for i in range(3)) for j in range(3)]
            told = helper.last(*helper.chain(kind, kept), ("after_steps", 24, [5, 15, 0]))
            self.assertEqual(helper.fractions_of(told[1:]), shares)
        self.assertGreater(shares[0].denominator, 2 ** 64)

    def test_steps_out_of_range(self):
        for kind in KINDS:
            made = helper.chain(kind, ROUND)
            for steps in (25, 26, 1000000, GREATEST):
                self.check(made, (("after_steps", steps, [1, 0, 0]), [-22]))
            self.assertEqual(len(helper.last(*made, ("after_steps", 24, [1, 0, 0]))), 7)

    def test_start_out_of_range(self):
        for kind in KINDS:
            made = helper.chain(kind, ROUND)
            for start in [[0, 0, 0], [], [1], [1, 0], [1, 0, 0, 0], [1] * 16, [0] * 16, [1000001, 0, 0],
                          [0, 1, 1000001], [GREATEST, 0, 0], [1, 1, GREATEST]]:
                for steps in (0, 1, 24, 25):
                    self.check(made, (("after_steps", steps, start), [-22]))
            for start in [[0] * 8, [1] * 7, [1] * 9, [], [1] * 16, [1] * 7 + [1000001]]:
                self.check(helper.chain(kind, helper.cycle(8)), (("after_steps", 3, start), [-22]))

    def test_the_order_of_errors(self):
        made = [("create", 1, 2)]
        for steps, start in [(25, [1, 1]), (0, [0, 0]), (1, [1]), (1, []), (24, [0, 1000001])]:
            self.check(made, (("after_steps", steps, start), [-22]))


class IsReversible(Shares):
    def test_ordinary(self):
        for kind in KINDS:
            self.check(helper.chain(kind, [[0, 1, 0], [2, 0, 3], [0, 4, 0]]), (("is_reversible", 1), [1]))
            self.check(helper.chain(kind, helper.cycle(3)), (("is_reversible", 0), [0]))
            self.check(helper.chain(kind, helper.cycle(2)), (("is_reversible", 0), [1]))

    def test_round_a_triangle(self):
        # The weights one way round have the product of those the other way round, or not.
        self.check(helper.chain(1, [[0, 2, 3], [1, 0, 6], [5, 20, 0]]), (("is_reversible", 0), [1]))
        self.check(helper.chain(1, [[0, 2, 3], [1, 0, 6], [5, 21, 0]]), (("is_reversible", 0), [0]))
        self.check(helper.chain(0, [[9, 2, 3], [1, 0, 6], [5, 20, 1]]), (("is_reversible", 2), [1]))
        self.check(helper.chain(0, [[9, 2, 3], [1, 0, 6], [5, 21, 1]]), (("is_reversible", 2), [0]))

    def test_the_class_alone_counts(self):
        rows = [[0, 1, 0, 1, 0], [0, 0, 1, 0, 0], [0, 1, 0, 0, 0], [0, 1, 0, 0, 1], [1, 0, 0, 0, 0]]
        for kind in KINDS:
            made = helper.chain(kind, rows)
            self.check(made, (("is_reversible", 1), [1]), (("is_reversible", 2), [1]), (("is_reversible", 0), [-33]))

    def test_one_and_eight_states(self):
        for kind in KINDS:
            self.check([("create", kind, 1)], (("is_reversible", 0), [1]))
            self.check(helper.chain(kind, helper.cycle(8)), (("is_reversible", 7), [0]))
            both = [[int((i - j) % 8 in (1, 7)) for j in range(8)] for i in range(8)]
            self.check(helper.chain(kind, both), (("is_reversible", 7), [1]))
        self.check(helper.chain(0, [[4]]), (("is_reversible", 0), [1]))

    def test_great_weights_that_differ_by_little(self):
        rows = [[0, 1000000, 999999], [999999, 0, 1000000], [1000000, 999999, 0]]
        self.check(helper.chain(1, rows), (("is_reversible", 0), [0]))
        rows = [[0, 1000000, 999999], [1000000, 0, 1000000], [999999, 1000000, 0]]
        self.check(helper.chain(1, rows), (("is_reversible", 0), [1]))

    def test_errors(self):
        for kind in KINDS:
            for i in NO_STATES:
                self.check([("create", kind, 3)], (("is_reversible", i), [-2]))
            self.check(helper.chain(kind, [[0, 1], [0, 0]]), (("is_reversible", 0), [-33]))


class Reversed(Shares):
    def table(self, kind, rows, expected):
        made = helper.chain(kind, rows)
        for i, row in enumerate(expected):
            for j, fraction in enumerate(row):
                answer = [-33] if fraction is None else [0] + list(fraction)
                self.check(made, (("reversed", i, j), answer))

    def test_continuous(self):
        self.table(1, ROUND, [[(-1, 1), (0, 1), (1, 1)], [(2, 1), (-2, 1), (0, 1)], [(0, 1), (4, 1), (-4, 1)]])
        # The stationary distribution is 5/12, 4/12, 3/12.
        self.table(1, [[0, 1, 3], [2, 0, 0], [4, 1, 0]],
                   [[(-4, 1), (8, 5), (12, 5)], [(5, 4), (-2, 1), (3, 4)], [(5, 1), (0, 1), (-5, 1)]])

    def test_discrete(self):
        self.table(0, ROUND, [[(-1, 1), (0, 1), (1, 1)], [(1, 1), (-1, 1), (0, 1)], [(0, 1), (1, 1), (-1, 1)]])
        # The stationary distribution is 2/5, 2/5, 1/5.
        self.table(0, [[1, 1, 0], [0, 1, 1], [1, 0, 0]],
                   [[(-1, 2), (0, 1), (1, 2)], [(1, 2), (-1, 2), (0, 1)], [(0, 1), (1, 1), (-1, 1)]])

    def test_a_reversible_chain_has_the_same_generator_backwards(self):
        self.table(1, [[0, 1, 0], [2, 0, 3], [0, 4, 0]],
                   [[(-1, 1), (1, 1), (0, 1)], [(2, 1), (-5, 1), (3, 1)], [(0, 1), (4, 1), (-4, 1)]])
        self.table(0, [[0, 1, 0], [2, 0, 3], [0, 4, 0]],
                   [[(-1, 1), (1, 1), (0, 1)], [(2, 5), (-1, 1), (3, 5)], [(0, 1), (1, 1), (-1, 1)]])

    def test_several_closed_classes(self):
        for kind in KINDS:
            self.table(kind, LEADING, [[None] * 4, [None, (-1, 1), (1, 1), None], [None, (1, 1), (-1, 1), None],
                                       [None, None, None, (0, 1)]])

    def test_one_and_eight_states(self):
        for kind in KINDS:
            self.table(kind, [[0]], [[(0, 1)]])
            self.check(helper.chain(kind, helper.cycle(8)), (("reversed", 0, 7), [0, 1, 1]),
                       (("reversed", 7, 0), [0, 0, 1]), (("reversed", 7, 7), [0, -1, 1]))
        self.table(0, [[4]], [[(0, 1)]])

    def test_more_than_64_bits(self):
        self.check(helper.chain(0, STAIRS), (("reversed", 0, 7), [0, 1, 1000001 ** 7]))

    def test_errors(self):
        for kind in KINDS:
            for i in NO_STATES:
                self.check(helper.chain(kind, [[0, 1, 0], [0, 0, 0], [0, 0, 0]]), (("reversed", i, 0), [-2]),
                           (("reversed", 0, i), [-2]), (("reversed", i, i), [-2]), (("reversed", 0, 1), [-33]),
                           (("reversed", 1, 0), [-33]), (("reversed", 1, 2), [-33]), (("reversed", 0, 0), [-33]))


if __name__ == "__main__":
    unittest.main()
