"""Whole lists of calls: how they are read and answered, and that nothing else is done."""

import contextlib
import io
import unittest

import helper
from exactchains.chains import answers

GREATEST = 4294967295


class Lists(unittest.TestCase):
    def test_one_call(self):
        self.assertEqual(answers([0, 0, 3]), [1, 0])
        self.assertEqual(answers([0, 2, 3]), [1, -22])

    def test_each_operation_as_it_is_written(self):
        calls = [0, 1, 3,
                 2, 0, 3, 0, 4, 2,
                 1, 1, 0, 6,
                 1, 2, 0, 6,
                 7, 0, 1,
                 8, 0, 2,
                 9, 0, 0,
                 10,
                 11, 1,
                 12, 1, 2,
                 6, 3, 7, 9, 9,
                 4, 8,
                 5,
                 3, 1]
        self.assertEqual(answers(calls), [1, 0,
                                          1, 6,
                                          1, 0,
                                          1, 0,
                                          1, 4,
                                          3, 0, 1, 3,
                                          3, 0, -6, 1,
                                          4, 1, 0, 0, 0,
                                          6, 3, 1, 2, 0, 1, 2,
                                          1, 2,
                                          1, 2,
                                          1, 6,
                                          1, 0,
                                          1, 1])

    def test_empty_rows_are_read(self):
        self.assertEqual(answers([0, 0, 2, 2, 1, 0, 6, 0, 7, 0, 0]), [1, 0, 1, -22, 1, -22, 1, 0])

    def test_rows_of_sixteen_numbers_are_read(self):
        row = list(range(16))
        calls = [0, 0, 2] + [2, 1, 16] + row + [6, 16] + row + [2, 0, 2, 5, 6]
        self.assertEqual(answers(calls), [1, 0, 1, -22, 1, -22, 1, 11])

    def test_sixty_calls(self):
        calls = [("create", 0, 8)] + [("set_weight", k % 8, k // 8, k) for k in range(58)] + [("get_weight", 3, 4)]
        self.assertEqual(helper.run(*calls), [[0]] * 59 + [[35]])

    def test_what_is_handed_in_stays_as_it_was(self):
        calls = helper.written(helper.chain(1, [[0, 1, 2], [3, 0, 0], [3, 0, 0]])
                               + [("set_row", 1, [3, 0, 4, 5]), ("lump", [5, 2, 2]), ("uniformize", 7),
                                  ("remove_state", 1), ("classes",), ("embed",)])
        before = list(calls)
        answers(calls)
        self.assertEqual(calls, before)

    def test_each_time_begins_without_an_instance(self):
        answers([0, 0, 3])
        self.assertEqual(answers([10]), [1, -11])
        self.assertEqual(answers([0, 0, 2, 10]), answers([0, 0, 2, 10]))

    def test_answers_are_plain_whole_numbers(self):
        calls = helper.written(helper.chain(1, [[0, 1], [0, 0]])
                               + [("class_info", 0), ("class_info", 1), ("generator", 0, 0), ("classes",),
                                  ("probability", 1, 1), ("distance", 1, 1), ("embed",)])
        answered = answers(calls)
        self.assertIs(type(answered), list)
        self.assertEqual({type(number) for number in answered}, {int})

    def test_nothing_is_printed(self):
        printed = io.StringIO()
        with contextlib.redirect_stdout(printed), contextlib.redirect_stderr(printed):
            answers([10, 0, 1, 2, 1, 0, 1, 5, 10, 3, 9])
        self.assertEqual(printed.getvalue(), "")


class WithoutInstance(unittest.TestCase):
    def test_each_operation_but_create(self):
        for call in helper.CALLS_BUT_CREATE:
            self.assertEqual(helper.run(call), [[-11]], call)

    def test_all_behind_one_another(self):
        self.assertEqual(helper.run(*helper.CALLS_BUT_CREATE), [[-11]] * 25)

    def test_before_all_other_errors(self):
        for call in [("set_weight", GREATEST, GREATEST, GREATEST), ("set_row", GREATEST, []),
                     ("remove_state", GREATEST), ("uniformize", 0), ("lump", []), ("get_weight", GREATEST, 0),
                     ("probability", 0, GREATEST), ("generator", 9, 9), ("class_info", 8), ("distance", 8, 8)]:
            self.assertEqual(helper.run(call), [[-11]], call)

    def test_a_refused_create_makes_no_instance(self):
        for call in helper.CALLS_BUT_CREATE:
            self.assertEqual(helper.run(("create", 0, 0), ("create", 2, 2), call), [[-22], [-22], [-11]], call)

    def test_a_later_create_ends_it(self):
        self.assertEqual(helper.run(("classes",), ("create", 0, 9), ("classes",), ("create", 0, 2), ("classes",)),
                         [[-11], [-22], [-11], [0], [2, 0, 1]])


class Refused(unittest.TestCase):
    """Point 7: each error of each operation leaves the instance as it was."""

    ANYWHERE = {
        -2: [("set_weight", 3, 0, 1), ("set_weight", 0, 3, 1), ("set_row", 3, [0, 1, 1]), ("remove_state", 3),
             ("get_weight", 3, 0), ("probability", 0, 3), ("generator", 3, 3), ("class_info", 3),
             ("distance", 0, 3)],
        -22: [("create", 2, 3), ("create", 0, 0), ("create", 1, 9), ("create", GREATEST, GREATEST),
              ("set_weight", 0, 1, 1000001), ("set_row", 0, []), ("set_row", 0, [0, 1]),
              ("set_row", 0, [0, 1, 1, 1]), ("set_row", 0, [0, 9, 1000001]), ("set_row", 0, [0] * 16),
              ("lump", []), ("lump", [0, 0]), ("lump", [0] * 4), ("lump", [0] * 16)],
        -33: [("distance", 2, 0), ("lump", [0, 0, 1])]}

    def check(self, made, call, code):
        count = made[0][2]
        self.assertEqual(helper.last(*made, call), [code], call)
        self.assertEqual(helper.rows_after(made + [call], count), helper.rows_after(made, count), call)

    def check_all(self, made, refused):
        for code, calls in refused.items():
            for call in calls:
                self.check(made, call, code)

    def test_in_a_discrete_chain(self):
        made = helper.chain(0, [[1, 2, 3], [0, 5, 0], [0, 7, 1000000]])
        self.check_all(made, self.ANYWHERE)
        self.check_all(made, {-33: [("uniformize", 0), ("uniformize", 1000000)]})

    def test_in_a_continuous_chain(self):
        made = helper.chain(1, [[0, 2, 3], [0, 0, 4], [0, 1000000, 0]])
        self.check_all(made, self.ANYWHERE)
        self.check_all(made, {-22: [("set_weight", 1, 1, 1), ("set_row", 1, [1, 1, 1]), ("uniformize", 0),
                                    ("uniformize", 999999), ("uniformize", 1000001)]})

    def test_a_weight_that_would_be_too_large(self):
        self.check(helper.chain(1, [[0, 1000000, 1], [0, 0, 0], [0, 0, 0]]), ("lump", [0, 1, 1]), -75)
        self.check(helper.chain(0, [[1, 1000000, 1000000], [0, 0, 0], [0, 0, 0]]), ("lump", [0, 1, 1]), -75)

    def test_the_last_state(self):
        self.check(helper.chain(0, [[7]]), ("remove_state", 0), -33)
        self.check(helper.chain(1, [[0]]), ("remove_state", 0), -33)


if __name__ == "__main__":
    unittest.main()
