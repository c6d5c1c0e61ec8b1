"""Operations 0 to 5: create, set_weight, set_row, remove_state, uniformize, embed."""

import unittest

import helper

GREATEST = 4294967295
KINDS = (0, 1)


class Create(unittest.TestCase):
    def test_all_weights_are_0(self):
        for kind in KINDS:
            for count in (1, 2, 5, 8):
                self.assertEqual(helper.run(("create", kind, count)), [[0]])
                self.assertEqual(helper.rows_after([("create", kind, count)], count), ([[0] * count] * count, kind))

    def test_out_of_range(self):
        for call in [("create", 0, 0), ("create", 0, 9), ("create", 1, 0), ("create", 1, 9), ("create", 0, GREATEST),
                     ("create", 2, 1), ("create", 2, 8), ("create", GREATEST, 3), ("create", 2, 0), ("create", 2, 9)]:
            self.assertEqual(helper.run(call), [[-22]], call)

    def test_an_instance_is_replaced(self):
        made = helper.chain(0, [[1, 2], [3, 4]])
        self.assertEqual(helper.rows_after(made + [("create", 1, 2)], 2), ([[0, 0], [0, 0]], 1))
        self.assertEqual(helper.rows_after(made + [("create", 0, 1)], 1), ([[0]], 0))
        self.assertEqual(helper.rows_after(made + [("create", 0, 8)], 8), ([[0] * 8] * 8, 0))

    def test_a_refused_one_keeps_the_instance(self):
        for kind in KINDS:
            made = helper.chain(kind, [[0, 2], [3, 0]])
            for call in [("create", 2, 2), ("create", 1 - kind, 0), ("create", 1 - kind, 9)]:
                self.assertEqual(helper.rows_after(made + [call], 2), ([[0, 2], [3, 0]], kind), call)


class SetWeight(unittest.TestCase):
    def test_the_previous_weight_is_answered(self):
        for kind in KINDS:
            calls = [("create", kind, 3), ("set_weight", 0, 2, 7), ("set_weight", 0, 2, 1000000),
                     ("set_weight", 0, 2, 0), ("set_weight", 0, 2, 4), ("set_weight", 2, 0, 9)]
            self.assertEqual(helper.run(*calls), [[0], [0], [7], [1000000], [0], [0]])
            self.assertEqual(helper.rows_after(calls, 3), ([[0, 0, 4], [0, 0, 0], [9, 0, 0]], kind))

    def test_one_and_eight_states(self):
        self.assertEqual(helper.rows_after([("create", 0, 1), ("set_weight", 0, 0, 5)], 1), ([[5]], 0))
        rows = helper.rows_after([("create", 1, 8), ("set_weight", 7, 0, 5), ("set_weight", 0, 7, 6)], 8)[0]
        self.assertEqual((rows[7], rows[0]), ([5] + [0] * 7, [0] * 7 + [6]))

    def test_from_a_state_to_itself(self):
        self.assertEqual(helper.run(("create", 0, 2), ("set_weight", 1, 1, 3), ("set_weight", 1, 1, 0)),
                         [[0], [0], [3]])
        self.assertEqual(helper.run(("create", 1, 2), ("set_weight", 1, 1, 0), ("set_weight", 1, 1, 1),
                                    ("set_weight", 1, 1, 1000000), ("get_weight", 1, 1)),
                         [[0], [0], [-22], [-22], [0]])

    def test_too_great(self):
        for kind in KINDS:
            for weight in (1000001, GREATEST):
                self.assertEqual(helper.last(("create", kind, 2), ("set_weight", 0, 1, weight)), [-22])
        self.assertEqual(helper.last(("create", 0, 2), ("set_weight", 0, 0, 1000001)), [-22])

    def test_no_such_state_comes_first(self):
        for kind in KINDS:
            for i, j in [(2, 0), (0, 2), (2, 2), (GREATEST, 0), (0, GREATEST), (8, 8)]:
                for weight in (0, 1, 1000001, GREATEST):
                    self.assertEqual(helper.last(("create", kind, 2), ("set_weight", i, j, weight)), [-2])


class SetRow(unittest.TestCase):
    def test_the_new_sum_is_answered(self):
        calls = [("create", 0, 3), ("set_row", 1, [1, 2, 3]), ("set_row", 1, [4, 0, 0]), ("set_row", 0, [0, 0, 0]),
                 ("set_row", 2, [1000000, 1000000, 1000000])]
        self.assertEqual(helper.run(*calls), [[0], [6], [4], [0], [3000000]])
        self.assertEqual(helper.rows_after(calls, 3), ([[0, 0, 0], [4, 0, 0], [1000000] * 3], 0))

    def test_a_continuous_chain(self):
        calls = [("create", 1, 3), ("set_row", 1, [1, 0, 3]), ("set_row", 1, [1, 1, 3]),
                 ("set_row", 0, [1000000, 0, 0]), ("set_row", 2, [0, 0, 1]), ("set_row", 0, [0, 1000000, 1])]
        self.assertEqual(helper.run(*calls), [[0], [4], [-22], [-22], [-22], [1000001]])
        self.assertEqual(helper.rows_after(calls, 3), ([[0, 1000000, 1], [1, 0, 3], [0, 0, 0]], 1))

    def test_one_and_eight_states(self):
        self.assertEqual(helper.run(("create", 0, 1), ("set_row", 0, [8]), ("create", 1, 1), ("set_row", 0, [0])),
                         [[0], [8], [0], [0]])
        self.assertEqual(helper.last(("create", 0, 8), ("set_row", 7, list(range(8)))), [28])

    def test_a_list_of_another_length(self):
        for kind in KINDS:
            for weights in ([], [0], [0] * 3, [0] * 16):
                self.assertEqual(helper.last(("create", kind, 2), ("set_row", 0, weights)), [-22], weights)
            for weights in ([], [0] * 7, [0] * 9, [0] * 16):
                self.assertEqual(helper.last(("create", kind, 8), ("set_row", 0, weights)), [-22], weights)

    def test_too_great(self):
        for kind in KINDS:
            for weights in ([0, 0, 1000001], [0, GREATEST, 0]):
                self.assertEqual(helper.last(("create", kind, 3), ("set_row", 0, weights)), [-22], weights)
        self.assertEqual(helper.last(("create", 0, 3), ("set_row", 0, [1000001, 0, 0])), [-22])

    def test_no_such_state_comes_first(self):
        for kind in KINDS:
            for i in (2, 8, GREATEST):
                for weights in ([0, 0], [], [0] * 16, [GREATEST, GREATEST]):
                    self.assertEqual(helper.last(("create", kind, 2), ("set_row", i, weights)), [-2])


class RemoveState(unittest.TestCase):
    ROWS = [[0, 1, 2], [3, 0, 5], [6, 7, 0]]

    def test_each_state(self):
        for kind in KINDS:
            made = helper.chain(kind, self.ROWS)
            for i, rows in [(0, [[0, 5], [7, 0]]), (1, [[0, 2], [6, 0]]), (2, [[0, 1], [3, 0]])]:
                self.assertEqual(helper.last(*made, ("remove_state", i)), [2])
                self.assertEqual(helper.rows_after(made + [("remove_state", i)], 2), (rows, kind))

    def test_weights_to_itself_go_along(self):
        made = helper.chain(0, [[1, 2], [3, 4]])
        self.assertEqual(helper.rows_after(made + [("remove_state", 0)], 1), ([[4]], 0))

    def test_down_to_one(self):
        calls = [("create", 0, 8)] + [("remove_state", 0)] * 8 + [("remove_state", 1), ("classes",)]
        self.assertEqual(helper.run(*calls), [[0], [7], [6], [5], [4], [3], [2], [1], [-33], [-2], [1, 0]])

    def test_no_such_state_comes_first(self):
        for kind in KINDS:
            for count, i in [(1, 1), (1, GREATEST), (2, 2), (8, 8), (3, GREATEST)]:
                self.assertEqual(helper.last(("create", kind, count), ("remove_state", i)), [-2])


class Uniformize(unittest.TestCase):
    ROWS = [[0, 2, 3], [1, 0, 0], [0, 0, 0]]

    def test_a_rate_above_and_just_the_greatest_sum(self):
        made = helper.chain(1, self.ROWS)
        for rate in (5, 6, 999999, 1000000):
            expected = [[rate - 5, 2, 3], [1, rate - 1, 0], [0, 0, rate]]
            self.assertEqual(helper.last(*made, ("uniformize", rate)), [5])
            self.assertEqual(helper.rows_after(made + [("uniformize", rate)], 3), (expected, 0))

    def test_a_rate_that_is_out_of_range(self):
        made = helper.chain(1, self.ROWS)
        for rate in (0, 1, 4, 1000001, GREATEST):
            self.assertEqual(helper.last(*made, ("uniformize", rate)), [-22], rate)

    def test_no_transitions(self):
        self.assertEqual(helper.run(("create", 1, 2), ("uniformize", 0), ("uniformize", 1)), [[0], [-22], [0]])
        self.assertEqual(helper.rows_after([("create", 1, 1), ("uniformize", 1)], 1), ([[1]], 0))

    def test_a_sum_of_just_the_greatest_rate(self):
        made = helper.chain(1, [[0, 999999, 1], [0, 0, 0], [0, 0, 0]])
        self.assertEqual(helper.last(*made, ("uniformize", 999999)), [-22])
        self.assertEqual(helper.last(*made, ("uniformize", 1000000)), [1000000])

    def test_a_sum_above_the_greatest_rate(self):
        made = helper.chain(1, [[0, 1000000, 1], [0, 0, 0], [0, 0, 0]])
        for rate in (1000000, 1000001):
            self.assertEqual(helper.last(*made, ("uniformize", rate)), [-22])

    def test_a_discrete_chain_comes_first(self):
        for rate in (0, 4, 5, 1000001, GREATEST):
            self.assertEqual(helper.last(*helper.chain(0, self.ROWS), ("uniformize", rate)), [-33])
        self.assertEqual(helper.run(("create", 1, 2), ("uniformize", 3), ("uniformize", 3)), [[0], [0], [-33]])

    def test_the_classes_are_kept(self):
        for rows in (self.ROWS, [[0, 1, 0], [0, 0, 1], [1, 0, 0]], [[0, 4, 0], [0, 0, 0], [0, 9, 0]]):
            made = helper.chain(1, rows)
            for rate in (9, 10, 1000000):
                told = helper.run(*made, ("classes",), ("uniformize", rate), ("classes",))
                self.assertEqual(told[-1], told[-3])
                for i in range(3):
                    told = helper.run(*made, ("class_info", i), ("uniformize", rate), ("class_info", i))
                    self.assertEqual(told[-1][:2] + told[-1][3:], told[-3][:2] + told[-3][3:])


class Embed(unittest.TestCase):
    def test_a_continuous_chain(self):
        made = helper.chain(1, [[0, 2], [3, 0]])
        self.assertEqual(helper.run(*made, ("embed",), ("embed",))[-2:], [[1], [0]])
        self.assertEqual(helper.rows_after(made + [("embed",)], 2), ([[0, 2], [3, 0]], 0))

    def test_a_discrete_chain_loses_the_weights_to_itself(self):
        made = helper.chain(0, [[1, 2], [3, 4]])
        self.assertEqual(helper.last(*made, ("embed",)), [0])
        self.assertEqual(helper.rows_after(made + [("embed",)], 2), ([[0, 2], [3, 0]], 0))

    def test_one_and_eight_states(self):
        self.assertEqual(helper.rows_after(helper.chain(0, [[7]]) + [("embed",)], 1), ([[0]], 0))
        rows = [[int(i != j) for j in range(8)] for i in range(8)]
        self.assertEqual(helper.rows_after(helper.chain(0, [[1] * 8] * 8) + [("embed",)], 8), (rows, 0))

    def test_a_weight_to_itself_may_be_set_afterwards(self):
        self.assertEqual(helper.run(("create", 1, 1), ("set_weight", 0, 0, 1), ("embed",), ("set_weight", 0, 0, 1)),
                         [[0], [-22], [1], [0]])


if __name__ == "__main__":
    unittest.main()
