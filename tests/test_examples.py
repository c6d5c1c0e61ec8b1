"""The rows of the document's examples that use operations 0 to 12 alone."""

import unittest

import helper

DISCRETE = """
    create(0, 3) -> 0
    set_row(0, [1, 1, 0]) -> 2
    set_row(1, [1, 0, 1]) -> 2
    set_row(2, [0, 1, 1]) -> 2
    classes() -> 1, 0, 0, 0
    class_info(0) -> 3, 1, 1, 0, 1, 2
    distance(0, 2) -> 2
    lump([0, 1, 0]) -> 2
    probability(1, 0) -> 0, 1, 1
"""

ABSORBING = """
    create(0, 3) -> 0
    set_row(1, [1, 0, 2]) -> 3
    classes() -> 3, 0, 1, 2
    distance(0, 1) -> error -33
    remove_state(3) -> error -2
"""

CONTINUOUS = """
    summary() -> error -11
    create(1, 2) -> 0
    set_weight(0, 1, 2) -> 0
    set_weight(1, 0, 3) -> 0
    set_weight(0, 0, 1) -> error -22
    generator(0, 0) -> 0, -2, 1
    uniformize(2) -> error -22
    uniformize(4) -> 3
    probability(1, 1) -> 0, 1, 4
    get_weight(0, 0) -> 2
"""


class Examples(unittest.TestCase):
    def check(self, text):
        rows = [helper.parse_row(row) for row in text.strip().splitlines()]
        answered = helper.run(*[call for call, answer in rows])
        for (call, expected), found in zip(rows, answered):
            self.assertEqual(found, expected, call)

    def test_discrete(self):
        self.check(DISCRETE)

    def test_absorbing(self):
        self.check(ABSORBING)

    def test_continuous(self):
        self.check(CONTINUOUS)


if __name__ == "__main__":
    unittest.main()
