"""Operations 7 to 12 and 25: get_weight, probability, generator, classes, class_info, distance, summary."""

import unittest

import helper

GREATEST = 4294967295
NO_STATES = [(2, 0), (0, 2), (2, 2), (8, 8), (GREATEST, 0), (0, GREATEST), (GREATEST, GREATEST)]


class OfTwoStates(unittest.TestCase):
    def test_no_such_state(self):
        for kind in (0, 1):
            for name in ("get_weight", "probability", "generator", "distance"):
                for i, j in NO_STATES:
                    self.assertEqual(helper.last(("create", kind, 2), (name, i, j)), [-2], (name, i, j))

    def test_removed_states_are_no_states(self):
        for name in ("get_weight", "probability", "generator", "distance"):
            self.assertEqual(helper.last(("create", 0, 3), ("remove_state", 0), (name, 2, 0)), [-2])
            self.assertEqual(helper.last(("create", 0, 3), ("remove_state", 0), (name, 0, 2)), [-2])
        self.assertEqual(helper.last(("create", 0, 3), ("remove_state", 0), ("class_info", 2)), [-2])


class GetWeight(unittest.TestCase):
    def test_each_pair(self):
        for kind, rows in [(0, [[1, 2], [0, 1000000]]), (1, [[0, 1000000], [3, 0]])]:
            for i in range(2):
                for j in range(2):
                    self.assertEqual(helper.last(*helper.chain(kind, rows), ("get_weight", i, j)), [rows[i][j]])


class Probability(unittest.TestCase):
    def check(self, kind, rows, expected):
        made = helper.chain(kind, rows)
        for i, row in enumerate(expected):
            for j, fraction in enumerate(row):
                self.assertEqual(helper.last(*made, ("probability", i, j)), [0] + list(fraction), (i, j))

    def test_discrete(self):
        self.check(0, [[2, 4, 6], [0, 3, 0], [1000000, 1000000, 1]],
                   [[(1, 6), (1, 3), (1, 2)],
                    [(0, 1), (1, 1), (0, 1)],
                    [(1000000, 2000001), (1000000, 2000001), (1, 2000001)]])

    def test_continuous(self):
        self.check(1, [[0, 4, 6], [8, 0, 0], [5, 5, 0]],
                   [[(0, 1), (2, 5), (3, 5)], [(1, 1), (0, 1), (0, 1)], [(1, 2), (1, 2), (0, 1)]])

    def test_a_sum_of_0(self):
        for kind in (0, 1):
            self.check(kind, [[0, 0], [0, 0]], [[(1, 1), (0, 1)], [(0, 1), (1, 1)]])
            self.check(kind, [[0]], [[(1, 1)]])


class Generator(unittest.TestCase):
    def check(self, kind, rows, expected):
        made = helper.chain(kind, rows)
        for i, row in enumerate(expected):
            for j, fraction in enumerate(row):
                self.assertEqual(helper.last(*made, ("generator", i, j)), [0] + list(fraction), (i, j))

    def test_discrete(self):
        self.check(0, [[2, 4, 6], [0, 3, 0], [1, 1, 0]],
                   [[(-5, 6), (1, 3), (1, 2)], [(0, 1), (0, 1), (0, 1)], [(1, 2), (1, 2), (-1, 1)]])

    def test_continuous(self):
        self.check(1, [[0, 4, 6], [8, 0, 0], [1000000, 1000000, 0]],
                   [[(-10, 1), (4, 1), (6, 1)],
                    [(8, 1), (-8, 1), (0, 1)],
                    [(1000000, 1), (1000000, 1), (-2000000, 1)]])

    def test_a_sum_of_0(self):
        for kind in (0, 1):
            self.check(kind, [[0, 0], [0, 0]], [[(0, 1), (0, 1)], [(0, 1), (0, 1)]])
            self.check(kind, [[0]], [[(0, 1)]])


class Classes(unittest.TestCase):
    def check(self, rows, expected):
        kept = [[0 if i == j else weight for j, weight in enumerate(row)] for i, row in enumerate(rows)]
        self.assertEqual(helper.last(*helper.chain(0, rows), ("classes",)), expected)
        self.assertEqual(helper.last(*helper.chain(1, kept), ("classes",)), expected)

    def test_no_transitions(self):
        self.check([[0]], [1, 0])
        self.check([[5]], [1, 0])
        self.check([[0] * 8] * 8, [8, 0, 1, 2, 3, 4, 5, 6, 7])

    def test_one_class(self):
        self.check([[0, 1, 0], [0, 0, 1], [1, 0, 0]], [1, 0, 0, 0])
        ring = [[int(j == (i + 1) % 8) for j in range(8)] for i in range(8)]
        self.check(ring, [1] + [0] * 8)

    def test_reached_one_way_alone(self):
        self.check([[0, 1, 0], [0, 0, 1], [0, 0, 1]], [3, 0, 1, 2])

    def test_names_are_the_smallest_states(self):
        self.check([[0, 0, 0, 1], [0, 0, 1, 0], [0, 1, 0, 0], [1, 1, 0, 0]], [2, 0, 1, 1, 0])
        self.check([[0, 0, 0, 0], [0, 0, 0, 2], [0, 0, 0, 0], [1, 3, 0, 0]], [3, 0, 1, 2, 1])


class ClassInfo(unittest.TestCase):
    def check(self, kind, rows, expected):
        made = helper.chain(kind, rows)
        for i, answer in enumerate(expected):
            self.assertEqual(helper.last(*made, ("class_info", i)), answer, i)

    def test_closed_and_not(self):
        for kind in (0, 1):
            self.check(kind, [[0, 1, 0, 0], [1, 0, 1, 0], [0, 0, 0, 1], [0, 0, 1, 0]],
                       [[2, 0, 2, 0, 1], [2, 0, 2, 0, 1], [2, 1, 2, 2, 3], [2, 1, 2, 2, 3]])

    def test_states_in_increasing_order(self):
        self.check(0, [[0, 0, 1], [0, 0, 0], [1, 1, 0]], [[2, 0, 2, 0, 2], [1, 1, 0, 1], [2, 0, 2, 0, 2]])

    def test_no_weights_within_the_class(self):
        for kind in (0, 1):
            self.check(kind, [[0]], [[1, 1, 0, 0]])
            self.check(kind, [[0, 1], [0, 0]], [[1, 0, 0, 0], [1, 1, 0, 1]])

    def test_a_state_that_leads_only_to_itself(self):
        self.check(0, [[3, 0], [1, 0]], [[1, 1, 1, 0], [1, 0, 0, 1]])
        self.check(0, [[3, 1], [0, 9]], [[1, 0, 1, 0], [1, 1, 1, 1]])

    def test_periods(self):
        three = [[0, 1, 0, 1], [0, 0, 1, 0], [1, 0, 0, 0], [0, 0, 1, 0]]
        for kind in (0, 1):
            self.check(kind, three, [[4, 1, 3, 0, 1, 2, 3]] * 4)
            ring = [[int(j == (i + 1) % 8) for j in range(8)] for i in range(8)]
            self.check(kind, ring, [[8, 1, 8, 0, 1, 2, 3, 4, 5, 6, 7]] * 8)
            chord = [list(row) for row in ring]
            chord[3][0] = 1
            self.check(kind, chord, [[8, 1, 4, 0, 1, 2, 3, 4, 5, 6, 7]] * 8)
            chord[4][0] = 1
            self.check(kind, chord, [[8, 1, 1, 0, 1, 2, 3, 4, 5, 6, 7]] * 8)

    def test_a_weight_to_itself_anywhere_in_the_class(self):
        self.check(0, [[0, 1, 0], [0, 0, 1], [1, 0, 1]], [[3, 1, 1, 0, 1, 2]] * 3)

    def test_weights_outside_of_the_class_are_without_effect_on_the_period(self):
        self.check(0, [[0, 1, 1], [1, 0, 0], [0, 0, 1]], [[2, 0, 2, 0, 1]] * 2 + [[1, 1, 1, 2]])

    def test_no_such_state(self):
        for kind in (0, 1):
            for count, i in [(1, 1), (3, 3), (8, 8), (8, GREATEST)]:
                self.assertEqual(helper.last(("create", kind, count), ("class_info", i)), [-2])


class Distance(unittest.TestCase):
    def test_to_itself(self):
        for kind in (0, 1):
            for count in (1, 8):
                for i in (0, count - 1):
                    self.assertEqual(helper.last(("create", kind, count), ("distance", i, i)), [0])
        self.assertEqual(helper.last(*helper.chain(0, [[4]]), ("distance", 0, 0)), [0])

    def test_the_smallest_number_of_transitions(self):
        for kind in (0, 1):
            made = helper.chain(kind, [[0, 1, 1, 0], [0, 0, 0, 1], [0, 1, 0, 0], [1, 0, 0, 0]])
            table = [[0, 1, 1, 2], [2, 0, 3, 1], [3, 1, 0, 2], [1, 2, 2, 0]]
            for i in range(4):
                for j in range(4):
                    self.assertEqual(helper.last(*made, ("distance", i, j)), [table[i][j]], (i, j))

    def test_the_greatest_distance(self):
        ring = [[int(j == (i + 1) % 8) for j in range(8)] for i in range(8)]
        self.assertEqual(helper.last(*helper.chain(1, ring), ("distance", 1, 0)), [7])

    def test_not_reached(self):
        for kind in (0, 1):
            made = helper.chain(kind, [[0, 1, 0], [0, 0, 0], [0, 1, 0]])
            for i, j in [(1, 0), (0, 2), (2, 0), (1, 2)]:
                self.assertEqual(helper.last(*made, ("distance", i, j)), [-33], (i, j))

    def test_no_such_state_comes_first(self):
        self.assertEqual(helper.last(("create", 0, 2), ("distance", 0, 1)), [-33])
        self.assertEqual(helper.last(("create", 0, 2), ("distance", 0, 2)), [-2])


class Summary(unittest.TestCase):
    def check(self, kind, rows, expected):
        self.assertEqual(helper.last(*helper.chain(kind, rows), ("summary",)), expected, rows)

    def test_ordinary(self):
        self.check(0, [[1, 1, 0], [1, 0, 1], [0, 1, 1]], [3, 0, 1, 1, 2])
        self.check(1, [[0, 1, 0], [1, 0, 1], [0, 7, 0]], [3, 1, 1, 1, 7])

    def test_several_classes(self):
        for kind in (0, 1):
            rows = [[0, 1, 0, 2, 0], [0, 0, 1, 0, 0], [0, 1, 0, 0, 0], [0, 0, 0, 0, 0], [9, 0, 0, 0, 0]]
            self.check(kind, rows, [5, kind, 4, 2, 9])
            self.check(kind, [[0, 1], [0, 0]], [2, kind, 2, 1, 1])

    def test_weights_to_itself_count_in_the_sum(self):
        self.check(0, [[5, 2], [0, 6]], [2, 0, 2, 1, 7])

    def test_one_and_eight_states(self):
        for kind in (0, 1):
            self.check(kind, [[0]], [1, kind, 1, 1, 0])
            self.check(kind, [[0] * 8] * 8, [8, kind, 8, 8, 0])
            self.check(kind, [[1000000 * int(i != j) for j in range(8)] for i in range(8)], [8, kind, 1, 1, 7000000])
        self.check(0, [[1000000] * 8] * 8, [8, 0, 1, 1, 8000000])

    def test_after_changes(self):
        made = helper.chain(1, [[0, 2], [3, 0]])
        self.assertEqual(helper.behind(made, ("uniformize", 4), ("summary",), ("embed",), ("summary",),
                                       ("remove_state", 0), ("summary",), ("create", 1, 4), ("summary",)),
                         [[3], [2, 0, 1, 1, 4], [0], [2, 0, 1, 1, 3], [1], [1, 0, 1, 1, 0], [0], [4, 1, 4, 4, 0]])


if __name__ == "__main__":
    unittest.main()
