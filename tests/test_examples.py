"""The document's own examples, the rows of the calls that are there."""

import unittest

from tests.helper import EXAMPLE_AXIOMS, ask, drop, line, lines, quiet, words


class Examples(unittest.TestCase):
    def test_the_rows_in_their_order(self):
        results = ask(
            *lines(EXAMPLE_AXIOMS),
            quiet(0, 1, 0), quiet(0, 2, 0), quiet(3, 0, 0), quiet(4, 0, 0),
            drop(4), words(7, 1, 3, 2, 0, 2, 3), quiet(9, 0, 0), line(2))
        self.assertEqual(results[:5], [[0], [1], [2], [3], [4]])
        self.assertEqual(results[5:9], [[0], [1], [1], [0]])
        self.assertEqual(results[9:], [[4], [0, 9, 2], [-2], [-1]])


if __name__ == "__main__":
    unittest.main()
