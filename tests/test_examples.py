"""All rows of the document's examples, as they stand there."""

import unittest

import helper

DISCRETE = """
    create(0, 3) -> 0
    set_row(0, [1, 1, 0]) -> 2
    set_row(1, [1, 0, 1]) -> 2
    set_row(2, [0, 1, 1]) -> 2
    classes() -> 1, 0, 0, 0
    class_info(0) -> 3, 1, 1, 0, 1, 2
    distance(0, 2) -> 2
    stationary(0) -> 3, 1, 3, 1, 3, 1, 3
    hitting_time(0, [2]) -> 0, 6, 1
    return_time(0) -> 0, 3, 1
    is_reversible(0) -> 1
    after_steps(2, [1, 0, 0]) -> 3, 1, 2, 1, 4, 1, 4
    watched(0, 0, [0, 2]) -> 0, 3, 4
    is_lumpable([0, 1, 0]) -> 1
    lump([0, 1, 0]) -> 2
    probability(1, 0) -> 0, 1, 1
    summary() -> 2, 0, 1, 1, 2
"""

ABSORBING = """
    create(0, 3) -> 0
    set_row(1, [1, 0, 2]) -> 3
    classes() -> 3, 0, 1, 2
    absorption(1) -> 2, 0, 1, 3, 2, 2, 3
    hitting_probability(1, [0]) -> 0, 1, 3
    hitting_time(1, [0]) -> error -33
    hitting_time(1, [0, 2]) -> 0, 1, 1
    visits(1, 1) -> 0, 1, 1
    visits(1, 0) -> error -33
    stationary(1) -> error -33
    long_run(1) -> 3, 1, 3, 0, 1, 2, 3
    distance(0, 1) -> error -33
    remove_state(3) -> error -2
"""

CONTINUOUS = """
    summary() -> error -11
    create(1, 2) -> 0
    set_weight(0, 1, 2) -> 0
    set_weight(1, 0, 3) -> 0
    set_weight(0, 0, 1) -> error -22
    stationary(0) -> 2, 3, 5, 2, 5
    hitting_time(0, [1]) -> 0, 1, 2
    generator(0, 0) -> 0, -2, 1
    return_time(0) -> 0, 5, 6
    uniformize(2) -> error -22
    uniformize(4) -> 3
    probability(1, 1) -> 0, 1, 4
    get_weight(0, 0) -> 2
"""


class Examples(unittest.TestCase):
    def check(self, text):
        rows = [helper.parse_row(row) for row in text.strip().splitlines()]
        answered = helper.run(*[call for call, answer in rows])
        for (call, expected), found in zip(rows, answered):
            self.assertEqual(found, expected, call)

    def test_discrete(self):
        self.check(DISCRETE)

    def test_absorbing(self):
        self.check(ABSORBING)

    def test_continuous(self):
        self.check(CONTINUOUS)

    def test_all_behind_one_another(self):
        self.check(CONTINUOUS + DISCRETE.strip("\n") + ABSORBING)

    def test_the_hitting_times_that_are_told(self):
        made = helper.chain(0, [[1, 1, 0], [1, 0, 1], [0, 1, 1]])
        told = helper.behind(made, *[("hitting_time", i, [2]) for i in range(3)])
        self.assertEqual(told, [[0, 6, 1], [0, 4, 1], [0, 0, 1]])


if __name__ == "__main__":
    unittest.main()
