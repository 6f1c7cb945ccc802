"""The largest requests that the document allows are answered in a short time."""

import time
import unittest

from tests.helper import ask, begins, by, drop, line, lines, part, parts, quiet, under, words

SECONDS = 5

# 30 numbers each, and 4 atoms in most of them.
LONG_AXIOMS = [
    (3, 6, 0, 6, 1, 2, 0, 7, 0, 5, 6, 1, 2, 0) + (5,) * 15 + (0,),
    (3, 6, 0, 6, 0, 2, 0, 7, 0, 6, 0, 2, 0) + (5,) * 15 + (2, 0),
    (6, 0, 6, 0, 6, 0, 2, 0) + (5,) * 16 + (6, 0, 6, 0, 2, 0),
    (4, 2, 0, 4, 2, 1, 4, 2, 2, 2, 3) + (4, 2, 3, 4, 2, 2, 4, 2, 1, 4, 2, 0, 4, 1, 3, 1, 5, 5, 1),
    (3,) * 9 + (2, 0) * 10 + (0,),
    (7, 1, 7, 1, 7, 0, 2, 3) + (5,) * 20 + (2, 3),
    (4, 7, 0, 2, 0, 7, 1, 2, 0) + (5,) * 17 + (6, 1, 2, 0),
    (5,) * 28 + (0, 1),
]
LOCAL = [[1], [0], [0], [1], [1], [0], [0], [0]]

A = (2, 0)
B = (2, 1)
C = (2, 2)
D = (2, 3)


def nested(role, depth, name):
    return (6, role) * depth + name


def padded(first, second):
    """The axiom, made as long as may be without another meaning: 29 or 30 numbers."""
    return first + (5, 5) * ((30 - len(first + second)) // 2) + second


# 4 atoms each, and no more than 6 in all.
SHARING = [
    padded(nested(0, 3, A), A),
    padded(A, nested(0, 3, A)),
    padded((4,) + A + nested(0, 2, A), B),
    padded((3,) + B + nested(0, 1, A), nested(1, 1, B)),
    padded(nested(1, 1, B), (4,) + B + nested(0, 1, A)),
    padded((3,) + A + (3,) + nested(0, 1, A) + nested(0, 2, A), nested(0, 3, A)),
    padded(nested(0, 3, A), (4,) + A + nested(0, 1, A)),
    padded((5,) + B, (3,) + (5,) + nested(0, 2, A) + (5,) + A),
]
# The module for name 0 needs six rounds: name 1, role 0, name 2, role 1, name 3, and the rest.
BY_ROUNDS = [
    padded(nested(1, 1, D), (3,) + C + nested(0, 1, D)),
    padded(D, (3,) + A + (3,) + B + C),
    padded((3,) + D + nested(1, 1, D), (4,) + A + nested(1, 2, D)),
    padded((3,) + nested(1, 1, C) + nested(1, 2, C), D),
    padded(C, nested(1, 3, C)),
    padded((3,) + nested(0, 1, B) + nested(0, 2, B), C),
    padded(B, nested(0, 3, B)),
    padded(A, B),
]


# The answer stands ahead; the module has all axioms.
QUESTIONS = [
    (1, nested(0, 3, A) + A), (0, A + nested(0, 2, A)), (1, nested(0, 2, A) + B), (0, B + A), (0, nested(1, 1, B) + B),
    (1, (3,) + nested(0, 2, A) + nested(0, 1, A) + nested(1, 1, B)), (0, (0,) + nested(1, 1, B)),
    (1, A + (3,) + B + nested(0, 3, A)), (0, nested(0, 1, A) + nested(1, 1, B)),
    (0, nested(0, 3, A) + nested(0, 2, A)), (0, (3,) + A + (5,) + nested(0, 1, A) + (1,)),
    (1, (3,) + A + nested(0, 1, A) + nested(1, 1, B)),
]
WHOLE = [8, 0, 1, 2, 3, 4, 5, 6, 7]


class Largest(unittest.TestCase):
    def ask_in_time(self, calls):
        """The results of 60 calls with at most 2000 numbers."""
        self.assertEqual(len(calls), 60)
        self.assertLessEqual(sum(len(call) for call in calls), 2000)
        start = time.perf_counter()
        results = ask(*calls)
        self.assertLess(time.perf_counter() - start, SECONDS)
        return results

    def test_the_axioms_are_as_long_as_may_be(self):
        self.assertEqual([len(axiom) for axiom in LONG_AXIOMS], [30] * 8)
        for axioms in (LONG_AXIOMS, SHARING, BY_ROUNDS):
            self.assertLessEqual({len(axiom) for axiom in axioms}, {29, 30})
            self.assertEqual(ask(*lines(axioms)), [[index] for index in range(8)])

    def test_quiet_and_calls_without_signatures(self):
        calls = lines(LONG_AXIOMS) + [quiet(index % 8, 15, 3) for index in range(12)]
        calls += [words(*(3, 0) * 14, 2, 3)] * 20
        calls += [line(*LONG_AXIOMS[0])] * 5 + [drop(7), line(*LONG_AXIOMS[0])] * 6 + [begins()]
        calls += [words(*(5,) * 29, 0), drop(0)]
        results = self.ask_in_time(calls)
        self.assertEqual(results[8:20], LOCAL + LOCAL[:4])
        self.assertEqual(results[20:40], [[0, 8, 0]] * 20)
        self.assertEqual(results[40:45], [[-7]] * 5)
        self.assertEqual(results[45:57], [[7], [7]] * 6)
        self.assertEqual(results[57:], [[0], [0, 0, 0], [-2]])

    def test_under(self):
        asked = [under(*padded((), concepts)) for answer, concepts in QUESTIONS]
        calls = lines(SHARING) + asked + [parts()] * 3 + [line(*SHARING[0]), words(*(6, 0) * 14, 2, 3)] * 18 + [drop(0)]
        results = self.ask_in_time(calls)
        self.assertEqual(results[8:20], [[answer] for answer, concepts in QUESTIONS])
        self.assertEqual(results[20:23], [[4] + WHOLE + [0, 0, 0]] * 3)
        self.assertEqual(results[23:], [[-7], [0, 8, 1]] * 18 + [[7]])

    def test_part_by_and_parts(self):
        asked = [part(1, 0), by(*padded(A, B)), part(15, 3), by(*padded((0,), D))] * 3
        calls = lines(BY_ROUNDS) + asked + [parts()] * 3 + [line(*BY_ROUNDS[0]), drop(8)] * 18 + [begins()]
        results = self.ask_in_time(calls)
        self.assertEqual(results[8:20], [[8, 15, 3] + WHOLE[1:], WHOLE] * 6)
        self.assertEqual(results[20:23], [[4] + WHOLE * 4] * 3)
        self.assertEqual(results[23:], [[-7], [-2]] * 18 + [[0]])

    def test_too_many_atoms(self):
        asked = [under(*padded((3,) + A + C, D))] * 12
        calls = lines(BY_ROUNDS) + asked + [parts()] * 3 + [begins()] * 37
        self.assertEqual(self.ask_in_time(calls)[8:20], [[-7]] * 12)


if __name__ == "__main__":
    unittest.main()
