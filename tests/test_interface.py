"""Whole lists of calls: how they are read and answered, and that nothing else is done."""

import contextlib
import io
import unittest

import helper
from exactchains.chains import answers

GREATEST = helper.GREATEST


class Lists(unittest.TestCase):
    def test_one_call(self):
        self.assertEqual(answers([0, 0, 3]), [1, 0])
        self.assertEqual(answers([0, 2, 3]), [1, -22])

    def test_each_operation_as_it_is_written(self):
        calls = [0, 1, 3,
                 2, 0, 3, 0, 4, 2,
                 1, 1, 0, 6,
                 1, 2, 0, 6,
                 7, 0, 1,
                 8, 0, 2,
                 9, 0, 0,
                 10,
                 11, 1,
                 12, 1, 2,
                 6, 3, 7, 9, 9,
                 4, 8,
                 5,
                 3, 1]
        self.assertEqual(answers(calls), [1, 0,
                                          1, 6,
                                          1, 0,
                                          1, 0,
                                          1, 4,
                                          3, 0, 1, 3,
                                          3, 0, -6, 1,
                                          4, 1, 0, 0, 0,
                                          6, 3, 1, 2, 0, 1, 2,
                                          1, 2,
                                          1, 2,
                                          1, 6,
                                          1, 0,
                                          1, 1])

    def test_each_later_operation_as_it_is_written(self):
        calls = [0, 1, 3,
                 2, 0, 3, 0, 1, 0,
                 2, 1, 3, 0, 0, 2,
                 2, 2, 3, 4, 0, 0,
                 13, 1,
                 14, 0, 1, 2,
                 15, 0, 2, 2, 1,
                 16, 2,
                 17, 2,
                 18, 0, 1,
                 19, 0,
                 20, 1, 3, 3, 0, 1,
                 21, 0,
                 22, 1, 0,
                 22, 2, 2,
                 23, 3, 1, 1, 5,
                 24, 0, 2, 2, 0, 2,
                 25]
        self.assertEqual(answers(calls), [1, 0,
                                          1, 1,
                                          1, 2,
                                          1, 4,
                                          7, 3, 4, 7, 2, 7, 1, 7,
                                          3, 0, 1, 1,
                                          3, 0, 1, 1,
                                          4, 1, 0, 1, 1,
                                          3, 0, 7, 4,
                                          1, -33,
                                          7, 3, 4, 7, 2, 7, 1, 7,
                                          7, 3, 13, 16, 3, 16, 0, 1,
                                          1, 0,
                                          3, 0, 2, 1,
                                          3, 0, -4, 1,
                                          1, 0,
                                          3, 0, 1, 1,
                                          5, 3, 1, 1, 1, 4])

    def test_empty_rows_are_read(self):
        self.assertEqual(answers([0, 0, 2, 2, 1, 0, 6, 0, 7, 0, 0]), [1, 0, 1, -22, 1, -22, 1, 0])
        self.assertEqual(answers([0, 0, 2, 14, 1, 0, 15, 1, 0, 20, 3, 0, 23, 0, 24, 1, 0, 0, 7, 0, 0]),
                         [1, 0, 1, -22, 1, -22, 1, -22, 1, -22, 1, -22, 1, 0])

    def test_rows_of_sixteen_numbers_are_read(self):
        row = list(range(16))
        calls = [0, 0, 2] + [2, 1, 16] + row + [6, 16] + row + [2, 0, 2, 5, 6]
        self.assertEqual(answers(calls), [1, 0, 1, -22, 1, -22, 1, 11])
        calls = [0, 0, 2]
        for head in ([14, 1], [15, 1], [20, 3], [23], [24, 1, 0]):
            calls += head + [16] + row
        self.assertEqual(answers(calls + [25]), [1, 0] + [1, -22] * 5 + [5, 2, 0, 2, 2, 0])

    def test_sixty_calls(self):
        calls = [("create", 0, 8)] + [("set_weight", k % 8, k // 8, k) for k in range(58)] + [("get_weight", 3, 4)]
        self.assertEqual(helper.run(*calls), [[0]] * 59 + [[35]])

    def test_sixty_calls_and_1200_numbers(self):
        longest = ("watched", 0, 0, [0] * 16)
        self.assertEqual(len(helper.written([longest] * 60)), 1200)
        self.assertEqual(helper.run(*[longest] * 60), [[-11]] * 60)
        calls = [("create", 0, 8)] + [longest] * 58 + [("watched", 0, 0, list(range(8)))]
        self.assertEqual(helper.run(*calls), [[0]] + [[-22]] * 58 + [[0, 1, 1]])

    def test_sixty_calls_of_all_kinds(self):
        calls, expected = self.of_all_kinds()
        self.assertEqual({call[0] for call in calls}, set(helper.NUMBERS))
        self.assertEqual(len(calls), 60)
        self.assertEqual(helper.run(*calls), expected)

    def of_all_kinds(self):
        """Sixty calls, in which each operation stands, and their answers."""
        rows = [
            (("summary",), [-11]), (("create", 1, 9), [-22]), (("stationary", 0), [-11]), (("create", 1, 3), [0]),
            (("after_steps", 0, [1, 1, 1]), [-33]), (("return_time", 0), [-33]), (("set_row", 0, [0, 1, 0]), [1]),
            (("set_row", 1, [0, 0, 2]), [2]), (("set_weight", 2, 0, 4), [0]), (("get_weight", 2, 0), [4]),
            (("probability", 2, 0), [0, 1, 1]), (("generator", 2, 2), [0, -4, 1]), (("classes",), [1, 0, 0, 0]),
            (("class_info", 2), [3, 1, 3, 0, 1, 2]), (("distance", 2, 1), [2]),
            (("stationary", 2), [3, 4, 7, 2, 7, 1, 7]), (("hitting_probability", 0, [2]), [0, 1, 1]),
            (("hitting_time", 0, [2]), [0, 3, 2]), (("absorption", 1), [1, 0, 1, 1]), (("return_time", 1), [0, 7, 4]),
            (("visits", 0, 0), [-33]), (("long_run", 1), [3, 4, 7, 2, 7, 1, 7]),
            (("after_steps", 1, [3, 0, 1]), [3, 13, 16, 3, 16, 0, 1]), (("is_reversible", 0), [0]),
            (("reversed", 1, 0), [0, 2, 1]), (("is_lumpable", [0, 0, 1]), [0]), (("lump", [0, 0, 1]), [-33]),
            (("watched", 0, 2, [2, 0]), [0, 1, 1]), (("summary",), [3, 1, 1, 1, 4]), (("uniformize", 3), [-22]),
            (("uniformize", 4), [4]), (("summary",), [3, 0, 1, 1, 4]), (("uniformize", 4), [-33]),
            (("stationary", 0), [3, 4, 7, 2, 7, 1, 7]), (("hitting_time", 0, [2]), [0, 6, 1]),
            (("get_weight", 0, 0), [3]), (("after_steps", 1, [3, 0, 1]), [3, 13, 16, 3, 16, 0, 1]),
            (("class_info", 0), [3, 1, 1, 0, 1, 2]), (("embed",), [0]), (("stationary", 0), [3, 1, 3, 1, 3, 1, 3]),
            (("hitting_time", 0, [2]), [0, 2, 1]), (("set_row", 2, [0, 0, 0]), [0]), (("stationary", 0), [-33]),
            (("return_time", 2), [0, 1, 1]), (("visits", 0, 1), [0, 1, 1]), (("visits", 1, 0), [0, 0, 1]),
            (("reversed", 2, 2), [0, 0, 1]), (("reversed", 2, 0), [-33]), (("is_reversible", 2), [1]),
            (("absorption", 0), [1, 2, 1, 1]), (("long_run", 0), [3, 0, 1, 0, 1, 1, 1]),
            (("after_steps", 25, [1, 0, 0]), [-22]), (("after_steps", 24, [1, 0, 0]), [3, 0, 1, 0, 1, 1, 1]),
            (("watched", 0, 3, [0]), [-2]), (("set_weight", 0, 2, 1), [0]), (("is_lumpable", [7, 7, 3]), [0]),
            (("hitting_probability", 0, [1]), [0, 1, 2]), (("remove_state", 1), [2]), (("lump", [9, 9]), [1]),
            (("summary",), [1, 0, 1, 1, 1])]
        return [call for call, answer in rows], [answer for call, answer in rows]

    def test_what_is_handed_in_stays_as_it_was(self):
        changing = (helper.chain(1, [[0, 1, 2], [3, 0, 0], [3, 0, 0]])
                    + [("set_row", 1, [3, 0, 4, 5]), ("lump", [5, 2, 2]), ("uniformize", 7), ("remove_state", 1),
                       ("classes",), ("embed",)])
        for listed in (changing, self.of_all_kinds()[0], helper.CALLS_BUT_CREATE):
            calls = helper.written(listed)
            before = list(calls)
            answers(calls)
            self.assertEqual(calls, before)

    def test_each_time_begins_without_an_instance(self):
        answers([0, 0, 3])
        self.assertEqual(answers([10]), [1, -11])
        self.assertEqual(answers([0, 0, 2, 10]), answers([0, 0, 2, 10]))

    def test_answers_are_plain_whole_numbers(self):
        calls = helper.written(helper.chain(1, [[0, 1], [0, 0]])
                               + [("class_info", 0), ("class_info", 1), ("generator", 0, 0), ("classes",),
                                  ("probability", 1, 1), ("distance", 1, 1), ("stationary", 1),
                                  ("hitting_probability", 0, [1]), ("hitting_time", 0, [1]), ("absorption", 0),
                                  ("visits", 0, 0), ("long_run", 0), ("after_steps", 3, [1, 2]),
                                  ("is_reversible", 1), ("reversed", 1, 1), ("is_lumpable", [0, 1]),
                                  ("watched", 0, 0, [0]), ("summary",), ("embed",), ("return_time", 1)])
        answered = answers(calls)
        self.assertIs(type(answered), list)
        self.assertEqual({type(number) for number in answered}, {int})

    def test_nothing_is_printed(self):
        printed = io.StringIO()
        with contextlib.redirect_stdout(printed), contextlib.redirect_stderr(printed):
            answers([10, 0, 1, 2, 1, 0, 1, 5, 10, 3, 9])
        self.assertEqual(printed.getvalue(), "")


class WithoutInstance(unittest.TestCase):
    def test_each_operation_but_create(self):
        for call in helper.CALLS_BUT_CREATE:
            self.assertEqual(helper.run(call), [[-11]], call)

    def test_all_behind_one_another(self):
        self.assertEqual(helper.run(*helper.CALLS_BUT_CREATE), [[-11]] * 25)

    def test_before_all_other_errors(self):
        for call in [("set_weight", GREATEST, GREATEST, GREATEST), ("set_row", GREATEST, []),
                     ("remove_state", GREATEST), ("uniformize", 0), ("lump", []), ("get_weight", GREATEST, 0),
                     ("probability", 0, GREATEST), ("generator", 9, 9), ("class_info", 8), ("distance", 8, 8),
                     ("stationary", GREATEST), ("hitting_probability", 8, []), ("hitting_probability", 0, []),
                     ("hitting_time", GREATEST, [3, 3]), ("absorption", 8), ("return_time", GREATEST),
                     ("visits", 0, GREATEST), ("long_run", 8), ("after_steps", 25, []), ("after_steps", 0, [0]),
                     ("is_reversible", GREATEST), ("reversed", GREATEST, 8), ("is_lumpable", []),
                     ("is_lumpable", [0] * 16), ("watched", 8, 8, []), ("watched", 0, 0, [1])]:
            self.assertEqual(helper.run(call), [[-11]], call)

    def test_a_refused_create_makes_no_instance(self):
        for call in helper.CALLS_BUT_CREATE:
            self.assertEqual(helper.run(("create", 0, 0), ("create", 2, 2), call), [[-22], [-22], [-11]], call)

    def test_a_later_create_ends_it(self):
        self.assertEqual(helper.run(("classes",), ("create", 0, 9), ("classes",), ("create", 0, 2), ("classes",)),
                         [[-11], [-22], [-11], [0], [2, 0, 1]])


class Refused(unittest.TestCase):
    """Point 7: each error of each operation leaves the instance as it was."""

    ANYWHERE = {
        -2: [("set_weight", 3, 0, 1), ("set_weight", 0, 3, 1), ("set_row", 3, [0, 1, 1]), ("remove_state", 3),
             ("get_weight", 3, 0), ("probability", 0, 3), ("generator", 3, 3), ("class_info", 3),
             ("distance", 0, 3), ("stationary", 3), ("hitting_probability", 3, [0]), ("hitting_time", 3, [0]),
             ("absorption", 3), ("return_time", 3), ("visits", 3, 0), ("visits", 0, 3), ("long_run", GREATEST),
             ("is_reversible", 3), ("reversed", 3, 0), ("reversed", 0, 3), ("watched", 3, 0, [0]),
             ("watched", 0, GREATEST, [0])],
        -22: [("create", 2, 3), ("create", 0, 0), ("create", 1, 9), ("create", GREATEST, GREATEST),
              ("set_weight", 0, 1, 1000001), ("set_row", 0, []), ("set_row", 0, [0, 1]),
              ("set_row", 0, [0, 1, 1, 1]), ("set_row", 0, [0, 9, 1000001]), ("set_row", 0, [0] * 16),
              ("lump", []), ("lump", [0, 0]), ("lump", [0] * 4), ("lump", [0] * 16),
              ("hitting_probability", 0, []), ("hitting_probability", 0, [1, 1]), ("hitting_time", 0, [3]),
              ("hitting_time", 0, [0] * 16), ("after_steps", 25, [1, 1, 1]), ("after_steps", 1, [0, 0, 0]),
              ("after_steps", 1, [1, 1]), ("after_steps", 1, [0, 0, 1000001]), ("is_lumpable", []),
              ("is_lumpable", [0] * 4), ("watched", 0, 0, []), ("watched", 0, 0, [0, 0]), ("watched", 0, 0, [0, 3])],
        -33: [("distance", 2, 0), ("lump", [0, 0, 1]), ("stationary", 0), ("hitting_time", 1, [0]),
              ("return_time", 0), ("visits", 0, 1), ("is_reversible", 0), ("reversed", 0, 1), ("reversed", 1, 0),
              ("watched", 0, 1, [1, 2])]}

    def check(self, made, call, code):
        count = made[0][2]
        self.assertEqual(helper.last(*made, call), [code], call)
        self.assertEqual(helper.rows_after(made + [call], count), helper.rows_after(made, count), call)

    def check_all(self, made, refused):
        for code, calls in refused.items():
            for call in calls:
                self.check(made, call, code)

    def test_in_a_discrete_chain(self):
        made = helper.chain(0, [[1, 2, 3], [0, 5, 0], [0, 7, 1000000]])
        self.check_all(made, self.ANYWHERE)
        self.check_all(made, {-33: [("uniformize", 0), ("uniformize", 1000000)]})

    def test_in_a_continuous_chain(self):
        made = helper.chain(1, [[0, 2, 3], [0, 0, 4], [0, 1000000, 0]])
        self.check_all(made, self.ANYWHERE)
        self.check_all(made, {-22: [("set_weight", 1, 1, 1), ("set_row", 1, [1, 1, 1]), ("uniformize", 0),
                                    ("uniformize", 999999), ("uniformize", 1000001)]})

    def test_a_weight_that_would_be_too_large(self):
        self.check(helper.chain(1, [[0, 1000000, 1], [0, 0, 0], [0, 0, 0]]), ("lump", [0, 1, 1]), -75)
        self.check(helper.chain(0, [[1, 1000000, 1000000], [0, 0, 0], [0, 0, 0]]), ("lump", [0, 1, 1]), -75)

    def test_the_last_state(self):
        self.check(helper.chain(0, [[7]]), ("remove_state", 0), -33)
        self.check(helper.chain(1, [[0]]), ("remove_state", 0), -33)

    def test_a_continuous_chain_without_transitions(self):
        for count in (1, 3):
            self.check([("create", 1, count)], ("after_steps", 1, [1] * count), -33)
            self.check([("create", 1, count)], ("return_time", 0), -33)


class LookedUp(unittest.TestCase):
    """The operations from number 7 on, when they are answered, leave the instance as it was, too."""

    CALLS = [("get_weight", 0, 1), ("probability", 0, 1), ("generator", 0, 1), ("classes",), ("class_info", 1),
             ("distance", 0, 2), ("stationary", 1), ("stationary", 2), ("hitting_probability", 0, [1]),
             ("hitting_probability", 0, [2, 1, 0]), ("hitting_time", 0, [2, 1]), ("hitting_time", 1, [2]),
             ("absorption", 0), ("return_time", 1), ("visits", 0, 0), ("visits", 1, 0), ("long_run", 0),
             ("after_steps", 24, [1000000, 0, 5]), ("after_steps", 0, [0, 0, 5]), ("is_reversible", 2),
             ("reversed", 1, 2), ("reversed", 2, 2), ("is_lumpable", [0, 0, 1]), ("is_lumpable", [0, 1, 1]),
             ("watched", 0, 1, [0, 1]), ("watched", 0, 0, [0]), ("summary",)]

    CHAINS = [(0, [[1, 2, 3], [0, 5, 7], [0, 7, 1000000]]), (1, [[0, 2, 3], [0, 0, 4], [0, 1000000, 0]])]

    def test_the_weights_and_the_kind_are_kept(self):
        for kind, rows in self.CHAINS:
            made = helper.chain(kind, rows)
            for call in self.CALLS:
                self.assertGreaterEqual(helper.last(*made, call)[0], 0, call)
                self.assertEqual(helper.rows_after(made + [call], 3), (rows, kind), call)

    def test_each_is_answered_the_same_behind_all_others(self):
        for kind, rows in self.CHAINS:
            made = helper.chain(kind, rows)
            told = helper.behind(made, *self.CALLS)
            self.assertEqual(told, [helper.last(*made, call) for call in self.CALLS])
            self.assertEqual(helper.behind(made, *self.CALLS, *self.CALLS), told + told)
            self.assertEqual(helper.behind(made, *self.CALLS[::-1]), told[::-1])

    def test_each_operation_from_number_7_on_is_among_them(self):
        looking_up = {name for name, number in helper.NUMBERS.items() if number > 6}
        self.assertEqual({call[0] for call in self.CALLS}, looking_up)


if __name__ == "__main__":
    unittest.main()
