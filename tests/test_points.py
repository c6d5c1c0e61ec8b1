"""Points 1 to 6 of the requirements, worked out from what the program answers for many chains."""

import unittest
from fractions import Fraction
from itertools import combinations

import helper

CHAINS = [
    [[0]],
    [[0] * 8] * 8,
    [[0, 2], [3, 0]],
    [[0, 1, 0], [0, 0, 2], [4, 0, 0]],
    [[0, 0, 0, 0], [2, 0, 1, 0], [0, 1, 0, 4], [0, 0, 0, 0]],
    [[0, 1, 0, 2], [0, 0, 1, 0], [0, 1, 0, 0], [0, 0, 0, 0]],
    [[0, 1, 3], [2, 0, 0], [4, 1, 0]],
    [[0, 1000000, 1], [999999, 0, 999983], [7, 1000000, 0]],
    [[0, 3, 0, 0, 1], [1, 0, 2, 0, 0], [0, 0, 0, 4, 0], [0, 0, 5, 0, 0], [0, 0, 0, 0, 0]],
    [[0, 1, 0, 0, 0, 0], [2, 0, 3, 0, 0, 0], [0, 0, 0, 1, 0, 0], [0, 0, 0, 0, 1, 0], [0, 0, 1, 0, 0, 0],
     [1, 0, 1, 0, 0, 0]],
    helper.cycle(8),
    helper.walk(8),
    [[(i * j + 3 * i + j) % 11 * int(i != j) for j in range(8)] for i in range(8)],
    [[(7 * i + 5 * j) % 1000003 % 4 * int(i // 4 == j // 4 or i < 4 and i != j) * int(i != j) for j in range(8)]
     for i in range(8)]]

# The discrete ones have weights from states to themselves, too.
LOOPED = [[[weight + int(i == j) * (i % 3) for j, weight in enumerate(row)] for i, row in enumerate(rows)]
          for rows in CHAINS]
ALL = [(0, rows) for rows in CHAINS] + [(0, rows) for rows in LOOPED] + [(1, rows) for rows in CHAINS]


def jump(rows, i, j):
    return Fraction(rows[i][j], sum(rows[i])) if sum(rows[i]) else Fraction(int(i == j))


def generator(kind, rows, i, j):
    if kind == 1:
        return Fraction(-sum(rows[i]) if i == j else rows[i][j])
    return jump(rows, i, j) - int(i == j)


def told_fractions(kind, rows, *calls):
    """For each call the fractions behind its first number."""
    made = helper.chain(kind, rows)
    return [helper.fractions_of(answer[1:]) for answer in helper.behind(made, *calls)]


def sets_of(count):
    """Sets of states: all of them, or, if they are many, the small ones and all states."""
    sizes = range(1, count + 1) if count < 6 else (1, 2, count)
    return [list(states) for size in sizes for states in combinations(range(count), size)]


class Points(unittest.TestCase):
    def is_closed(self, kind, rows, i):
        return helper.last(*helper.chain(kind, rows), ("class_info", i))[1] == 1

    def test_1_stationary_distributions(self):
        seen = {True: 0, False: 0}
        for kind, rows in ALL:
            states = range(len(rows))
            for i in states:
                told = helper.last(*helper.chain(kind, rows), ("stationary", i))
                closed = self.is_closed(kind, rows, i)
                seen[closed] += 1
                if not closed:
                    self.assertEqual(told, [-33])
                    continue
                members = helper.last(*helper.chain(kind, rows), ("class_info", i))[3:]
                values = helper.fractions_of(told[1:])
                self.assertEqual((told[0], len(values), sum(values)), (len(rows), len(rows), 1))
                self.assertTrue(all((value > 0) == (j in members) and value >= 0 for j, value in enumerate(values)))
                for j in states:
                    self.assertEqual(sum(values[k] * generator(kind, rows, k, j) for k in states), 0, (rows, i, j))
        self.assertTrue(seen[True] > 20 and seen[False] > 20)

    def test_1_return_times_and_reversed_chains_follow_from_them(self):
        for kind, rows in ALL:
            for i in range(len(rows)):
                if not self.is_closed(kind, rows, i):
                    continue
                made = helper.chain(kind, rows)
                values = told_fractions(kind, rows, ("stationary", i))[0]
                if kind == 0 or sum(rows[i]) > 0:
                    stay = Fraction(1) if kind == 0 else Fraction(1, sum(rows[i]))
                    self.assertEqual(told_fractions(kind, rows, ("return_time", i))[0], [stay / values[i]])
                members = helper.last(*made, ("class_info", i))[3:]
                back = told_fractions(kind, rows, *[("reversed", i, j) for j in members])
                self.assertEqual([row[0] * values[i] for row in back],
                                 [values[j] * generator(kind, rows, j, i) for j in members])
                self.assertEqual(sum(row[0] for row in back), 0)
                same = all(values[j] * generator(kind, rows, j, k) == values[k] * generator(kind, rows, k, j)
                           for j in members for k in members)
                self.assertEqual(helper.last(*made, ("is_reversible", i)), [int(same)], rows)

    def test_2_absorption(self):
        for kind, rows in ALL:
            made = helper.chain(kind, rows)
            infos = helper.behind(made, *[("class_info", i) for i in range(len(rows))])
            closed = [i for i, info in enumerate(infos) if info[1] == 1 and info[3] == i]
            for i in range(len(rows)):
                told = helper.last(*made, ("absorption", i))
                self.assertEqual((told[0], told[1::3]), (len(closed), closed), rows)
                chances = [Fraction(*pair) for pair in zip(told[2::3], told[3::3])]
                self.assertEqual(sum(chances), 1)
                hits = told_fractions(kind, rows, *[("hitting_probability", i, infos[name][3:]) for name in closed])
                self.assertEqual([[chance] for chance in chances], hits)

    def test_2_long_run_shares_are_made_of_them(self):
        for kind, rows in ALL:
            made = helper.chain(kind, rows)
            for i in range(len(rows)):
                told = helper.last(*made, ("absorption", i))
                expected = [Fraction(0)] * len(rows)
                for name, numerator, denominator in zip(told[1::3], told[2::3], told[3::3]):
                    values = told_fractions(kind, rows, ("stationary", name))[0]
                    expected = [old + Fraction(numerator, denominator) * new for old, new in zip(expected, values)]
                answer = helper.last(*made, ("long_run", i))
                self.assertEqual((answer[0], helper.fractions_of(answer[1:])), (len(rows), expected))
                self.assertEqual(sum(expected), 1)

    def test_3_hitting_probabilities(self):
        between = 0
        for kind, rows in ALL:
            states = range(len(rows))
            distances = [helper.behind(helper.chain(kind, rows), *[("distance", i, j) for j in states]) for i in states]
            for targets in sets_of(len(rows)):
                told = told_fractions(kind, rows, *[("hitting_probability", i, targets) for i in states])
                chances = [answer[0] for answer in told]
                for i in states:
                    self.assertTrue(0 <= chances[i] <= 1)
                    between += int(0 < chances[i] < 1)
                    if i in targets:
                        self.assertEqual(chances[i], 1)
                    else:
                        self.assertEqual(chances[i], sum(jump(rows, i, j) * chances[j] for j in states))
                    self.assertEqual(chances[i] == 0, all(distances[i][j] == [-33] for j in targets))
        self.assertGreater(between, 100)

    def test_3_hitting_times_satisfy_their_equations(self):
        for kind, rows in ALL:
            states = range(len(rows))
            for targets in sets_of(len(rows)):
                made = helper.chain(kind, rows)
                chances = helper.behind(made, *[("hitting_probability", i, targets) for i in states])
                times = helper.behind(made, *[("hitting_time", i, targets) for i in states])
                for i in states:
                    self.assertEqual(times[i] == [-33], chances[i] != [0, 1, 1], (rows, i, targets))
                    if i in targets:
                        self.assertEqual(times[i], [0, 0, 1])
                    elif times[i] != [-33]:
                        stay = Fraction(1) if kind == 0 else Fraction(1, sum(rows[i]))
                        rest = sum(jump(rows, i, j) * Fraction(*times[j][1:]) for j in states if rows[i][j])
                        self.assertEqual(Fraction(*times[i][1:]), stay + rest)

    def test_3_visits_and_watched_chains_satisfy_their_equations(self):
        for kind, rows in ALL:
            states = range(len(rows))
            made = helper.chain(kind, rows)
            for j in states:
                told = helper.behind(made, *[("visits", i, j) for i in states])
                if self.is_closed(kind, rows, j):
                    reached = [answer != [-33] for answer in helper.behind(made, *[("distance", i, j) for i in states])]
                    self.assertEqual(told, [[-33] if known else [0, 0, 1] for known in reached])
                    continue
                means = [helper.fractions_of(answer[1:])[0] for answer in told]
                for i in states:
                    self.assertEqual(means[i], int(i == j) + sum(jump(rows, i, k) * means[k] for k in states))

    def test_3_watched_chains_keep_the_hitting_probabilities_of_their_states(self):
        for kind, rows in ALL:
            for members in sets_of(len(rows)):
                pairs = [(i, j) for i in members[:3] for j in members]
                told = told_fractions(kind, rows, *[("watched", i, j, members) for i, j in pairs])
                chances = dict(zip(pairs, [answer[0] for answer in told]))
                targets = members[-1:]
                hits = told_fractions(kind, rows, *[("hitting_probability", i, targets) for i in members])
                for i in members[:3]:
                    self.assertTrue(sum(chances[i, j] for j in members) <= 1)
                    if i not in targets:
                        after = sum(chances[i, j] * hit[0] for j, hit in zip(members, hits))
                        self.assertEqual(hits[members.index(i)][0], after)

    def test_4_lumping(self):
        tried = 0
        for rows in CHAINS + LOOPED:
            for number in range(2 ** len(rows)):
                labels = [number >> i & 1 for i in range(len(rows))]
                made = helper.chain(0, rows)
                if helper.last(*made, ("is_lumpable", labels)) == [0]:
                    self.assertEqual(helper.last(*made, ("lump", labels)), [-33])
                    continue
                names = sorted(set(labels), key=labels.index)
                start = [i % 3 + 1 for i in range(len(rows))]
                blocks = [sum(share for share, label in zip(start, labels) if label == name) for name in names]
                if helper.last(*made, ("lump", labels)) == [-75]:
                    continue
                tried += 1
                steps = number % 25
                shares = told_fractions(0, rows, ("after_steps", steps, start))[0]
                expected = [sum(share for share, label in zip(shares, labels) if label == name) for name in names]
                lumped = helper.last(*made, ("lump", labels), ("after_steps", steps, blocks))
                self.assertEqual(helper.fractions_of(lumped[1:]), expected, (rows, labels))
        self.assertGreater(tried, 100)

    def test_5_uniformization(self):
        for rows in CHAINS:
            asked = [("classes",)] + [("stationary", i) for i in range(len(rows))]
            asked += [("long_run", i) for i in range(len(rows))] + [("is_reversible", i) for i in range(len(rows))]
            made = helper.chain(1, rows)
            most = max(1, *[sum(row) for row in rows])
            for rate in {most, most + 1, 1000000}:
                if rate <= 1000000:
                    self.assertEqual(helper.behind(made, ("uniformize", rate), *asked)[1:], helper.behind(made, *asked))

    def test_5_the_step_matrix_is_that_of_the_smallest_rate(self):
        for rows in CHAINS:
            most = max(sum(row) for row in rows)
            made = helper.chain(1, rows)
            for steps in (0, 1, 2, 24):
                asked = ("after_steps", steps, list(range(1, len(rows) + 1)))
                if most == 0:
                    self.assertEqual(helper.last(*made, asked), [-33])
                elif most <= 1000000:
                    self.assertEqual(helper.last(*made, ("uniformize", most), asked), helper.last(*made, asked))

    def test_6_distributions(self):
        for kind, rows in ALL:
            if kind == 1 and not any(sum(row) for row in rows):
                continue
            states = range(len(rows))
            most = max(sum(row) for row in rows)
            before = None
            start = [(5 * i + 1) % 7 for i in states]
            for steps in range(25):
                told = helper.last(*helper.chain(kind, rows), ("after_steps", steps, start))
                shares = helper.fractions_of(told[1:])
                self.assertEqual((told[0], len(shares), sum(shares)), (len(rows), len(rows), 1))
                self.assertTrue(all(share >= 0 for share in shares))
                if steps == 0:
                    self.assertEqual(shares, [Fraction(number, sum(start)) for number in start])
                elif kind == 0:
                    self.assertEqual(shares, [sum(before[i] * jump(rows, i, j) for i in states) for j in states])
                else:
                    change = [sum(before[i] * generator(1, rows, i, j) for i in states) / most for j in states]
                    self.assertEqual(shares, [old + new for old, new in zip(before, change)])
                before = shares

    def test_6_a_stationary_distribution_stays(self):
        for kind, rows in ALL:
            told = helper.last(*helper.chain(kind, rows), ("stationary", 0))
            if told == [-33] or max(told) > 1000 or (kind == 1 and not any(sum(row) for row in rows)):
                continue
            values = helper.fractions_of(told[1:])
            start = [int(value * 1000000) for value in values]
            if [Fraction(number, sum(start)) for number in start] == values:
                for steps in (0, 1, 24):
                    self.assertEqual(helper.last(*helper.chain(kind, rows), ("after_steps", steps, start)), told)


if __name__ == "__main__":
    unittest.main()
