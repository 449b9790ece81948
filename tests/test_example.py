"""The document's example, from its beginning to its end."""

import unittest

from tests.helper import ask, begin, blocks, group, line, look, row, rows, rule, runs


class Example(unittest.TestCase):
    def test_example(self):
        told = (
            (begin(99), [0]),
            (group(3, 0, 4, 11, 1, 6, 6), [0]),
            (runs(3), [0, 2, 4, 5, 7, 11]),
            (blocks(3), [0, 3, 4, 1, 7, 0, 8, 2]),
            (rule(0, 1, 3, -1, 17, 0, 1), [0]),
            (rows(), [0, 3, 3]),
            (row(0), [0, 1, 4, 4294967294, 0, 0, 17, 255, 0, 65534]),
            (ask(6, 9, 17, 0), [0, 0, -1]),
            (look(11, 9, 17, 1), [0, 1, 2]),
            (rule(1, 1, -1, -1, 17, 0, 0), [0]),
            (rule(2, 1, -1, -1, 17, 1, 1), [0]),
            (rows(), [0, 5, 4]),
            (row(3), [0, 1, 0, 0, 0, 0, 17, 255, 0, 65534]),
        )
        self.assertEqual(line(*[call for call, answer in told]), [answer for call, answer in told])


if __name__ == "__main__":
    unittest.main()
