"""The document's own examples, as one object sees them."""

import unittest

from tests.helper import EXAMPLE_AXIOMS, ask, by, drop, line, lines, part, quiet, under, words

# The rows in their order.
ROWS = [
    (part(1, 0), [4, 15, 1, 0, 1, 2, 4]),
    (part(0, 0), [4, 15, 1, 0, 1, 2, 4]),
    (quiet(0, 1, 0), [0]),
    (quiet(0, 2, 0), [1]),
    (quiet(3, 0, 0), [1]),
    (quiet(4, 0, 0), [0]),
    (under(2, 3, 6, 0, 0), [1]),
    (under(2, 0, 2, 3), [0]),
    (by(2, 0, 0), [4, 0, 1, 2, 4]),
    (drop(4), [4]),
    (part(1, 0), [2, 7, 1, 0, 1]),
    (part(2, 0), [1, 6, 1, 1]),
    (words(7, 1, 3, 2, 0, 2, 3), [0, 9, 2]),
    (quiet(9, 0, 0), [-2]),
    (part(16, 0), [-1]),
    (line(2), [-1]),
]


class Examples(unittest.TestCase):
    def test_the_rows_in_their_order(self):
        results = ask(*lines(EXAMPLE_AXIOMS), *[call for call, told in ROWS])
        self.assertEqual(results[:5], [[0], [1], [2], [3], [4]])
        for at, (call, told) in enumerate(ROWS):
            with self.subTest(row=at, call=call):
                self.assertEqual(results[5 + at], told)


if __name__ == "__main__":
    unittest.main()
