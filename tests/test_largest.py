"""The largest requests that the document allows are answered in a short time."""

import time
import unittest

from tests.helper import ask, begins, drop, line, quiet, words

SECONDS = 5

# 30 numbers each, and 4 atoms in most of them.
LONG_AXIOMS = [
    (3, 6, 0, 6, 1, 2, 0, 7, 0, 5, 6, 1, 2, 0) + (5,) * 15 + (0,),
    (3, 6, 0, 6, 0, 2, 0, 7, 0, 6, 0, 2, 0) + (5,) * 15 + (2, 0),
    (6, 0, 6, 0, 6, 0, 2, 0) + (5,) * 16 + (6, 0, 6, 0, 2, 0),
    (4, 2, 0, 4, 2, 1, 4, 2, 2, 2, 3) + (4, 2, 3, 4, 2, 2, 4, 2, 1, 4, 2, 0, 4, 1, 3, 1, 5, 5, 1),
    (3,) * 9 + (2, 0) * 10 + (0,),
    (7, 1, 7, 1, 7, 0, 2, 3) + (5,) * 20 + (2, 3),
    (4, 7, 0, 2, 0, 7, 1, 2, 0) + (5,) * 17 + (6, 1, 2, 0),
    (5,) * 28 + (0, 1),
]
LOCAL = [[1], [0], [0], [1], [1], [0], [0], [0]]


class Largest(unittest.TestCase):
    def test_the_axioms_are_as_long_as_may_be(self):
        self.assertEqual([len(axiom) for axiom in LONG_AXIOMS], [30] * 8)
        self.assertEqual(ask(*[line(*axiom) for axiom in LONG_AXIOMS]), [[index] for index in range(8)])

    def test_sixty_operations(self):
        calls = [line(*axiom) for axiom in LONG_AXIOMS]
        calls += [quiet(index % 8, 15, 3) for index in range(12)]
        calls += [words(*(3, 0) * 14, 2, 3)] * 20
        calls += [line(*LONG_AXIOMS[0])] * 5 + [drop(7), line(*LONG_AXIOMS[0])] * 6 + [begins()]
        calls += [words(*(5,) * 29, 0), drop(0)]
        self.assertEqual(len(calls), 60)
        self.assertLessEqual(sum(len(call) for call in calls), 2000)
        start = time.perf_counter()
        results = ask(*calls)
        self.assertLess(time.perf_counter() - start, SECONDS)
        self.assertEqual(results[8:20], LOCAL + LOCAL[:4])
        self.assertEqual(results[20:40], [[0, 8, 0]] * 20)
        self.assertEqual(results[40:45], [[-7]] * 5)
        self.assertEqual(results[45:57], [[7], [7]] * 6)
        self.assertEqual(results[57:], [[0], [0, 0, 0], [-2]])


if __name__ == "__main__":
    unittest.main()
