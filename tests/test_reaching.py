"""Operations 14, 15, 16, 18 and 24: hitting_probability, hitting_time, absorption, visits, watched."""

import unittest

import helper

GREATEST = helper.GREATEST
KINDS = (0, 1)
NO_STATES = (3, 4, 8, GREATEST)

# 1 and 2 lie between 0 and 3, which are never left.
BETWEEN = [[0, 0, 0, 0], [1, 0, 1, 0], [0, 1, 0, 1], [0, 0, 0, 0]]
RATES = [[0, 0, 0, 0], [2, 0, 1, 0], [0, 1, 0, 4], [0, 0, 0, 0]]

# 0 and 1 lead to the cycle of 2 and 3; 4 leads to it and to 5; 5 leads only to itself; 6 is alone.
SEVERAL = [[0, 1, 0, 0, 0, 0, 0],
           [2, 0, 1, 0, 0, 0, 0],
           [0, 0, 0, 5, 0, 0, 0],
           [0, 0, 5, 0, 0, 0, 0],
           [3, 0, 0, 0, 0, 1, 0],
           [0, 0, 0, 0, 0, 9, 0],
           [0, 0, 0, 0, 0, 0, 0]]

# From 0, seven steps one behind another lead to 7; each is taken with a probability of 1 to 1000001.
STAIRS = [[0] * 8 for i in range(8)]
for step in range(7):
    STAIRS[step][0], STAIRS[step][step + 1] = 1000000, 1


class Reaching(unittest.TestCase):
    def check(self, made, *calls_and_answers):
        """Each call behind those that make the chain has its answer."""
        for call, expected in calls_and_answers:
            self.assertEqual(helper.last(*made, call), expected, call)


class HittingProbability(Reaching):
    def table(self, kind, rows, targets, expected):
        told = helper.behind(helper.chain(kind, rows), *[("hitting_probability", i, targets) for i in range(len(rows))])
        self.assertEqual(told, [[0] + list(fraction) for fraction in expected], targets)

    def test_strictly_between_0_and_1(self):
        for kind in KINDS:
            self.table(kind, BETWEEN, [0], [(1, 1), (2, 3), (1, 3), (0, 1)])
            self.table(kind, BETWEEN, [3], [(0, 1), (1, 3), (2, 3), (1, 1)])
            self.table(kind, BETWEEN, [2], [(0, 1), (1, 2), (1, 1), (0, 1)])
            self.table(kind, RATES, [0], [(1, 1), (5, 7), (1, 7), (0, 1)])

    def test_certain(self):
        for kind in KINDS:
            self.table(kind, BETWEEN, [0, 3], [(1, 1)] * 4)
            self.table(kind, BETWEEN, [3, 0], [(1, 1)] * 4)
            self.table(kind, BETWEEN, [2, 0], [(1, 1), (1, 1), (1, 1), (0, 1)])
            self.table(kind, BETWEEN, [0, 1, 2, 3], [(1, 1)] * 4)
            for targets in ([0], [1], [2], [2, 0]):
                self.table(kind, helper.cycle(3), targets, [(1, 1)] * 3)

    def test_several_closed_classes(self):
        self.table(0, SEVERAL, [2], [(1, 1), (1, 1), (1, 1), (1, 1), (3, 4), (0, 1), (0, 1)])
        self.table(0, SEVERAL, [5], [(0, 1)] * 4 + [(1, 4), (1, 1), (0, 1)])
        self.table(0, SEVERAL, [3, 6], [(1, 1)] * 4 + [(3, 4), (0, 1), (1, 1)])
        self.table(0, SEVERAL, [1, 5], [(1, 1), (1, 1), (0, 1), (0, 1), (1, 1), (1, 1), (0, 1)])
        self.table(0, SEVERAL, [6], [(0, 1)] * 6 + [(1, 1)])
        self.table(0, SEVERAL, [4], [(0, 1)] * 4 + [(1, 1), (0, 1), (0, 1)])

    def test_weights_to_itself_only_delay(self):
        rows = [[0, 0, 0, 0], [1, 7, 1, 0], [0, 1, 1000000, 1], [0, 0, 0, 3]]
        self.table(0, rows, [0], [(1, 1), (2, 3), (1, 3), (0, 1)])

    def test_what_leaves_the_set_is_without_effect(self):
        for kind in KINDS:
            self.table(kind, [[0, 1, 1], [0, 0, 0], [3, 1, 0]], [0], [(1, 1), (0, 1), (3, 4)])

    def test_one_and_eight_states(self):
        for kind in KINDS:
            self.table(kind, [[0]], [0], [(1, 1)])
            self.table(kind, helper.walk(8), [7], [(0, 1), (1, 7), (2, 7), (3, 7), (4, 7), (5, 7), (6, 7), (1, 1)])
            self.table(kind, [[0] * 8] * 8, [7], [(0, 1)] * 7 + [(1, 1)])
        self.table(0, [[5]], [0], [(1, 1)])

    def test_more_than_64_bits(self):
        rows = [[0] * 8 for i in range(8)]
        for i in range(6):
            rows[i][i + 1], rows[i][7] = 1, 1000000
        for kind in KINDS:
            made = helper.chain(kind, rows)
            self.check(made, (("hitting_probability", 0, [6]), [0, 1, 1000001 ** 6]),
                       (("hitting_probability", 0, [7]), [0, 1000001 ** 6 - 1, 1000001 ** 6]))

    def test_errors(self):
        for kind in KINDS:
            made = [("create", kind, 3)]
            for targets in [[0], [0, 1, 2]] + helper.wrong_sets(3):
                for i in NO_STATES:
                    self.check(made, (("hitting_probability", i, targets), [-2]))
            for targets in helper.wrong_sets(3):
                self.check(made, (("hitting_probability", 0, targets), [-22]))
            for targets in helper.wrong_sets(8):
                self.check([("create", kind, 8)], (("hitting_probability", 7, targets), [-22]))


class HittingTime(Reaching):
    def table(self, kind, rows, targets, expected):
        told = helper.behind(helper.chain(kind, rows), *[("hitting_time", i, targets) for i in range(len(rows))])
        answers = [[-33] if fraction is None else [0] + list(fraction) for fraction in expected]
        self.assertEqual(told, answers, targets)

    def test_discrete(self):
        self.table(0, BETWEEN, [0, 3], [(0, 1), (2, 1), (2, 1), (0, 1)])
        self.table(0, RATES, [0, 3], [(0, 1), (10, 7), (9, 7), (0, 1)])
        self.table(0, helper.cycle(3), [2], [(2, 1), (1, 1), (0, 1)])
        self.table(0, [[1, 3], [1, 0]], [1], [(4, 3), (0, 1)])

    def test_continuous(self):
        self.table(1, BETWEEN, [0, 3], [(0, 1), (1, 1), (1, 1), (0, 1)])
        self.table(1, RATES, [0, 3], [(0, 1), (3, 7), (2, 7), (0, 1)])
        self.table(1, [[0, 1, 0], [0, 0, 2], [4, 0, 0]], [2], [(3, 2), (1, 2), (0, 1)])
        self.table(1, [[0, 1, 0], [0, 0, 2], [4, 0, 0]], [1, 0], [(0, 1), (0, 1), (1, 4)])

    def test_not_certain(self):
        for kind in KINDS:
            self.table(kind, BETWEEN, [0], [(0, 1), None, None, None])
        self.table(0, SEVERAL, [5], [None] * 5 + [(0, 1), None])
        self.table(0, SEVERAL, [2], [(6, 1), (5, 1), (0, 1), (1, 1), None, None, None])
        self.table(0, SEVERAL, [3, 1, 5], [(1, 1), (0, 1), (1, 1), (0, 1), (7, 4), (0, 1), None])

    def test_the_state_itself_is_in_the_set(self):
        for kind in KINDS:
            self.table(kind, BETWEEN, [0, 1, 2, 3], [(0, 1)] * 4)
            self.table(kind, BETWEEN, [1], [None, (0, 1), None, None])

    def test_a_sum_of_0(self):
        for kind in KINDS:
            self.table(kind, [[0, 0], [0, 0]], [0], [(0, 1), None])
            self.table(kind, [[0, 0], [1, 0]], [0], [(0, 1), (1, 1)])

    def test_one_and_eight_states(self):
        for kind in KINDS:
            self.table(kind, [[0]], [0], [(0, 1)])
            self.table(kind, helper.cycle(8), [0], [(0, 1)] + [(8 - i, 1) for i in range(1, 8)])
        self.table(0, [[5]], [0], [(0, 1)])
        self.table(0, helper.walk(8), [0, 7], [(i * (7 - i), 1) for i in range(8)])
        self.table(0, [[1] * 8] * 8, [3], [(8, 1)] * 3 + [(0, 1)] + [(8, 1)] * 4)

    def test_more_than_64_bits(self):
        expected = sum(1000001 ** k for k in range(1, 8))
        self.check(helper.chain(0, STAIRS), (("hitting_time", 0, [7]), [0, expected, 1]))

    def test_errors(self):
        for kind in KINDS:
            made = [("create", kind, 3)]
            for targets in [[0], [0, 1, 2]] + helper.wrong_sets(3):
                for i in NO_STATES:
                    self.check(made, (("hitting_time", i, targets), [-2]))
            # From 0 no other state is reached, so -33 would be asked for, too.
            for targets in helper.wrong_sets(3) + [[1, 1], [1, 2, 1]]:
                self.check(made, (("hitting_time", 0, targets), [-22]))
            self.check(made, (("hitting_time", 0, [1, 2]), [-33]))


class Absorption(Reaching):
    def test_ordinary(self):
        for kind in KINDS:
            self.check(helper.chain(kind, BETWEEN),
                       (("absorption", 0), [2, 0, 1, 1, 3, 0, 1]),
                       (("absorption", 1), [2, 0, 2, 3, 3, 1, 3]),
                       (("absorption", 2), [2, 0, 1, 3, 3, 2, 3]),
                       (("absorption", 3), [2, 0, 0, 1, 3, 1, 1]))

    def test_several_closed_classes(self):
        made = helper.chain(0, SEVERAL)
        for i in (0, 1, 2, 3):
            self.check(made, (("absorption", i), [3, 2, 1, 1, 5, 0, 1, 6, 0, 1]))
        self.check(made, (("absorption", 4), [3, 2, 3, 4, 5, 1, 4, 6, 0, 1]),
                   (("absorption", 5), [3, 2, 0, 1, 5, 1, 1, 6, 0, 1]),
                   (("absorption", 6), [3, 2, 0, 1, 5, 0, 1, 6, 1, 1]))

    def test_names_are_the_smallest_states(self):
        rows = [[0, 1, 1, 2], [0, 0, 0, 1], [0, 0, 0, 0], [0, 1, 0, 0]]
        for kind in KINDS:
            self.check(helper.chain(kind, rows), (("absorption", 0), [2, 1, 3, 4, 2, 1, 4]),
                       (("absorption", 3), [2, 1, 1, 1, 2, 0, 1]))

    def test_one_class(self):
        for kind in KINDS:
            for i in range(3):
                self.check(helper.chain(kind, helper.cycle(3)), (("absorption", i), [1, 0, 1, 1]))

    def test_one_and_eight_states(self):
        for kind in KINDS:
            self.check([("create", kind, 1)], (("absorption", 0), [1, 0, 1, 1]))
            alone = [8] + [number for name in range(8) for number in (name, int(name == 5), 1)]
            self.check([("create", kind, 8)], (("absorption", 5), alone))
            rows = [[0] * 8 for i in range(7)] + [[1, 2, 3, 4, 5, 6, 7, 0]]
            shares = [7, 0, 1, 28, 1, 1, 14, 2, 3, 28, 3, 1, 7, 4, 5, 28, 5, 3, 14, 6, 1, 4]
            self.check(helper.chain(kind, rows), (("absorption", 7), shares))
        self.check(helper.chain(0, [[3]]), (("absorption", 0), [1, 0, 1, 1]))

    def test_errors(self):
        for kind in KINDS:
            for i in NO_STATES:
                self.check([("create", kind, 3)], (("absorption", i), [-2]))


class Visits(Reaching):
    def test_ordinary(self):
        for kind in KINDS:
            self.check(helper.chain(kind, BETWEEN),
                       (("visits", 1, 1), [0, 4, 3]), (("visits", 1, 2), [0, 2, 3]),
                       (("visits", 2, 1), [0, 2, 3]), (("visits", 2, 2), [0, 4, 3]))

    def test_weights_to_itself_are_entries_too(self):
        self.check(helper.chain(0, [[3, 1, 1], [0, 0, 0], [0, 1, 1]]),
                   (("visits", 0, 0), [0, 5, 2]), (("visits", 0, 2), [0, 1, 1]), (("visits", 2, 2), [0, 2, 1]))

    def test_not_reached(self):
        for kind in KINDS:
            made = helper.chain(kind, BETWEEN)
            for i, j in [(0, 1), (0, 2), (3, 1), (0, 3), (3, 0)]:
                self.check(made, (("visits", i, j), [0, 0, 1]))

    def test_reached_and_closed(self):
        for kind in KINDS:
            made = helper.chain(kind, BETWEEN)
            for i, j in [(0, 0), (1, 0), (2, 0), (1, 3), (3, 3)]:
                self.check(made, (("visits", i, j), [-33]))
            for i in range(3):
                for j in range(3):
                    self.check(helper.chain(kind, helper.cycle(3)), (("visits", i, j), [-33]))

    def test_several_closed_classes(self):
        self.check(helper.chain(0, SEVERAL),
                   (("visits", 0, 0), [0, 3, 1]), (("visits", 0, 1), [0, 3, 1]), (("visits", 1, 0), [0, 2, 1]),
                   (("visits", 4, 0), [0, 9, 4]), (("visits", 4, 4), [0, 1, 1]), (("visits", 4, 5), [-33]),
                   (("visits", 0, 4), [0, 0, 1]), (("visits", 0, 5), [0, 0, 1]), (("visits", 0, 2), [-33]))

    def test_one_and_eight_states(self):
        for kind in KINDS:
            self.check([("create", kind, 1)], (("visits", 0, 0), [-33]))
            made = helper.chain(kind, helper.walk(8))
            self.check(made, (("visits", 3, 3), [0, 24, 7]), (("visits", 2, 5), [0, 8, 7]),
                       (("visits", 6, 1), [0, 2, 7]), (("visits", 0, 5), [0, 0, 1]), (("visits", 5, 7), [-33]))

    def test_more_than_64_bits(self):
        self.check(helper.chain(0, STAIRS), (("visits", 0, 0), [0, 1000001 ** 7, 1]),
                   (("visits", 0, 6), [0, 1000001, 1]), (("visits", 6, 0), [0, 1000001 ** 7 - 1000001 ** 6, 1]))

    def test_errors(self):
        for kind in KINDS:
            for i in NO_STATES:
                self.check([("create", kind, 3)], (("visits", i, 0), [-2]), (("visits", 0, i), [-2]),
                           (("visits", i, i), [-2]), (("visits", 0, 0), [-33]))


class Watched(Reaching):
    def table(self, kind, rows, members, expected):
        pairs = [(i, j) for i in sorted(members) for j in sorted(members)]
        told = helper.behind(helper.chain(kind, rows), *[("watched", i, j, members) for i, j in pairs])
        self.assertEqual(told, [[0] + list(fraction) for row in expected for fraction in row], members)

    def test_discrete(self):
        rows = [[1, 1, 0], [1, 0, 1], [0, 1, 1]]
        self.table(0, rows, [0, 2], [[(3, 4), (1, 4)], [(1, 4), (3, 4)]])
        self.table(0, rows, [1, 0], [[(1, 2), (1, 2)], [(1, 2), (1, 2)]])
        self.table(0, rows, [1], [[(1, 1)]])
        self.table(0, rows, [2, 0, 1], [[(1, 2), (1, 2), (0, 1)], [(1, 2), (0, 1), (1, 2)], [(0, 1), (1, 2), (1, 2)]])

    def test_continuous(self):
        rows = [[0, 1, 3], [2, 0, 2], [5, 1, 0]]
        self.table(1, rows, [0, 1], [[(5, 8), (3, 8)], [(11, 12), (1, 12)]])
        self.table(1, rows, [0, 1, 2], [[(0, 1), (1, 4), (3, 4)], [(1, 2), (0, 1), (1, 2)], [(5, 6), (1, 6), (0, 1)]])

    def test_several_states_in_between(self):
        for kind in KINDS:
            self.table(kind, helper.cycle(5), [4, 1], [[(0, 1), (1, 1)], [(1, 1), (0, 1)]])
            self.table(kind, BETWEEN, [0, 1, 3], [[(1, 1), (0, 1), (0, 1)], [(1, 2), (1, 4), (1, 4)],
                                                  [(0, 1), (0, 1), (1, 1)]])

    def test_the_set_is_left_for_ever(self):
        for kind in KINDS:
            self.table(kind, BETWEEN, [1], [[(1, 4)]])
            self.table(kind, BETWEEN, [1, 2], [[(0, 1), (1, 2)], [(1, 2), (0, 1)]])
            self.table(kind, BETWEEN, [1, 0], [[(1, 1), (0, 1)], [(1, 2), (1, 4)]])
        self.table(0, SEVERAL, [1, 4], [[(2, 3), (0, 1)], [(3, 4), (0, 1)]])
        self.table(0, SEVERAL, [0, 5, 6], [[(2, 3), (0, 1), (0, 1)], [(0, 1), (1, 1), (0, 1)],
                                           [(0, 1), (0, 1), (1, 1)]])

    def test_one_and_eight_states(self):
        for kind in KINDS:
            self.table(kind, [[0]], [0], [[(1, 1)]])
            self.table(kind, helper.walk(8), [0, 3, 7], [[(1, 1), (0, 1), (0, 1)], [(1, 6), (17, 24), (1, 8)],
                                                         [(0, 1), (0, 1), (1, 1)]])
            self.table(kind, helper.cycle(8), [5], [[(1, 1)]])
            self.table(kind, [[0] * 8] * 8, [7, 2], [[(1, 1), (0, 1)], [(0, 1), (1, 1)]])
        self.table(0, [[9]], [0], [[(1, 1)]])

    def test_more_than_64_bits(self):
        chance = 1000001 ** 7
        self.check(helper.chain(0, STAIRS), (("watched", 0, 7, [0, 7]), [0, 1, chance]),
                   (("watched", 0, 0, [0, 7]), [0, chance - 1, chance]))

    def test_not_in_the_set(self):
        for kind in KINDS:
            made = helper.chain(kind, BETWEEN)
            for i, j, members in [(0, 1, [1]), (1, 0, [1]), (0, 0, [1, 2, 3]), (3, 2, [0, 1])]:
                self.check(made, (("watched", i, j, members), [-33]))

    def test_errors(self):
        for kind in KINDS:
            made = [("create", kind, 3)]
            for members in [[0], [1]] + helper.wrong_sets(3):
                for i in NO_STATES:
                    self.check(made, (("watched", i, 0, members), [-2]), (("watched", 0, i, members), [-2]),
                               (("watched", i, i, members), [-2]))
            for members in helper.wrong_sets(3) + [[1, 1], [2, 1, 2]]:
                self.check(made, (("watched", 0, 0, members), [-22]), (("watched", 0, 2, members), [-22]),
                           (("watched", 2, 0, members), [-22]))


if __name__ == "__main__":
    unittest.main()
