"""The call under: subsumption by hand-made cases, the limit on atoms, and its errors."""

import unittest

from tests.helper import LARGEST, ask, drop, line, part, under, with_axioms

A = (2, 0)
B = (2, 1)
C = (2, 2)
D = (2, 3)
ALL = (0,)
NOTHING = (1,)
NOT_A = (5, 2, 0)
NOT_B = (5, 2, 1)

# First concept, second concept, answer; there are no axioms.
ALONE = [
    (ALL, ALL, 1), (NOTHING, NOTHING, 1), (NOTHING, ALL, 1), (ALL, NOTHING, 0), (NOTHING, A, 1), (A, NOTHING, 0),
    (A, A, 1), (A, B, 0), (A, ALL, 1), (ALL, A, 0), (D, D, 1), (D, C, 0), (NOT_A, A, 0), (A, NOT_A, 0),
    ((3,) + A + B, A, 1), ((3,) + A + B, B, 1), (A, (3,) + A + B, 0), (A, (4,) + A + B, 1), ((4,) + A + B, A, 0),
    ((3,) + A + NOT_A, NOTHING, 1), (ALL, (4,) + A + NOT_A, 1), ((4,) + A + B, (4,) + B + A, 1),
    ((3,) + A + (4,) + B + C, (4, 3) + A + B + (3,) + A + C, 1), ((4,) + A + B, (3, 4) + A + B + C, 0),
    ((5, 3) + A + B, (4,) + NOT_A + NOT_B, 1), ((5, 4) + A + B, (3,) + NOT_A + NOT_B, 1),
    # Restrictions.
    ((6, 0, 0), (6, 0, 0), 1), ((6, 0, 0), (6, 1, 0), 0), ((6, 0) + A, (6, 0, 0), 1), ((6, 0, 0), (6, 0) + A, 0),
    ((6, 0, 1), NOTHING, 1), (ALL, (7, 0, 0), 1), (ALL, (6, 0, 0), 0), (ALL, (7, 0, 1), 0), ((7, 0, 1), (7, 0) + A, 1),
    ((7, 0) + A, (6, 0) + A, 0), ((6, 0) + A, (7, 0) + A, 0), ((3, 6, 0, 0, 7, 0) + A, (6, 0) + A, 1),
    ((3, 6, 1, 0, 7, 0) + A, (6, 0) + A, 0), ((3, 6, 0) + A + (6, 0) + B, (6, 0, 3) + A + B, 0),
    ((6, 0, 3) + A + B, (3, 6, 0) + A + (6, 0) + B, 1), ((6, 0, 4) + A + B, (4, 6, 0) + A + (6, 0) + B, 1),
    ((3, 7, 0) + A + (7, 0) + B, (7, 0, 3) + A + B, 1), ((7, 0, 4) + A + B, (4, 7, 0) + A + (7, 0) + B, 0),
    ((5, 6, 0) + A, (7, 0) + NOT_A, 1), ((7, 1) + NOT_A, (5, 6, 1) + A, 1), ((5, 7, 1) + A, (6, 1) + NOT_A, 1),
    ((5, 7, 1) + A, (6, 0) + NOT_A, 0),
    # Nested ones.
    ((6, 0, 6, 1) + A, (6, 0, 6, 1, 0), 1), ((6, 0, 6, 1) + A, (6, 1, 6, 0) + A, 0), ((6, 0, 6, 0, 0), (6, 0, 0), 1),
    ((6, 0, 0), (6, 0, 6, 0, 0), 0), ((6, 0, 7, 1) + A, (6, 0, 7, 1, 4) + A + B, 1),
    ((7, 0, 6, 1) + A, (7, 0, 6, 1, 0), 1), ((7, 0, 6, 1, 0), (7, 0, 6, 1) + A, 0),
    ((3, 6, 0, 6, 1, 0, 7, 0, 7, 1) + A, (6, 0, 6, 1, 0), 1), ((3, 6, 0, 7, 1, 1, 7, 0, 6, 1, 0), NOTHING, 1),
    ((3, 6, 0, 6, 1) + A + (7, 0, 7, 1) + NOT_A, NOTHING, 1), ((3, 6, 0, 6, 1) + A + (7, 1, 7, 0) + NOT_A, NOTHING, 0),
    ((6, 0, 6, 1, 6, 0, 1), NOTHING, 1), (ALL, (7, 1, 7, 0, 7, 1, 0), 1),
]

# Axioms, then (first concept, second concept, answer) for some questions.
WITH_AXIOMS = [
    ([A + B, B + C, C + D], [(A, D, 1), (A, B, 1), (B, D, 1), (D, A, 0), (C, B, 0), (NOT_A, NOT_B, 0),
                             ((5,) + D, NOT_A, 1), ((6, 0) + A, (6, 0) + D, 1), ((7, 1) + A, (7, 1) + D, 1),
                             ((6, 0) + D, (6, 0) + A, 0), ((3,) + A + (5,) + C, NOTHING, 1)]),
    # Only all together lead to the answer.
    ([A + (6, 0) + B, B + C, (6, 0) + C + D], [(A, D, 1), (B, D, 0), ((6, 0) + B, D, 1), (D, A, 0)]),
    ([A + (6, 0, 0), A + (7, 0) + B, B + C], [(A, (6, 0) + C, 1), (A, (6, 0) + B, 1), (A, C, 0), (B, A, 0)]),
    ([A + (4,) + B + C, B + D, C + D], [(A, D, 1), (A, B, 0), (A, (4,) + B + C, 1), (D, A, 0)]),
    ([A + B, A + C, (3,) + B + C + NOTHING], [(A, NOTHING, 1), (A, D, 1), (B, NOTHING, 0), ((6, 0) + A, (6, 1, 0), 1),
                                              (ALL, (7, 0) + NOT_A, 1)]),
    ([A + (6, 0) + B, B + (6, 1) + C, C + NOTHING], [(A, NOTHING, 1), (B, NOTHING, 1), (A, D, 1), (ALL, NOT_A, 1),
                                                     (D, NOTHING, 0), (D, NOT_A, 1)]),
    # Without an end, or round in a circle.
    ([A + (6, 0) + A], [(A, (6, 0, 6, 0) + A, 1), (A, (6, 0, 6, 0, 6, 0) + A, 1), (A, NOTHING, 0), (A, (7, 0) + A, 0)]),
    ([A + (6, 0) + B, B + (6, 0) + A], [(A, (6, 0, 6, 0) + A, 1), (A, (6, 0) + A, 0), (A, NOTHING, 0)]),
    ([A + (6, 0) + A, A + (7, 0) + NOT_A], [(A, NOTHING, 1), (A, B, 1), (ALL, NOT_A, 1), (B, A, 0)]),
    ([(6, 0) + A + A], [((6, 0, 6, 0) + A, A, 1), (A, (6, 0) + A, 0), (NOT_A, (7, 0) + NOT_A, 1)]),
    # About each element.
    ([ALL + A], [(ALL, A, 1), (B, A, 1), ((6, 0, 0), (6, 0) + A, 1), (ALL, (7, 1) + A, 1), (NOT_A, NOTHING, 1)]),
    ([ALL + (6, 0) + A], [(ALL, (6, 0, 6, 0) + A, 1), (ALL, A, 0), ((7, 0, 1), NOTHING, 1), (B, (7, 0) + A, 0)]),
    ([(6, 1, 0) + NOTHING], [((6, 1) + A, B, 1), (ALL, (7, 1) + A, 1), ((6, 0, 0), (6, 1, 0), 0)]),
    # No model with some element keeps to these.
    ([ALL + NOTHING], [(ALL, NOTHING, 1), (A, B, 1), (ALL, A, 1), (ALL, (6, 0, 1), 1)]),
    ([ALL + A, A + NOTHING], [(ALL, NOTHING, 1), (B, NOTHING, 1), (A, (6, 1) + B, 1)]),
    ([ALL + (6, 0) + A, A + NOTHING], [(ALL, NOTHING, 1), (B, C, 1), ((7, 0, 1), B, 1)]),
    ([ALL + (6, 1, 0), ALL + (7, 1) + A, A + NOTHING], [(ALL, NOTHING, 1), (B, C, 1), (B, NOTHING, 1)]),
    # Outside the module is what says nothing of these concepts.
    ([C + D], [(A, B, 0), (A, A, 1), (A, D, 0), (C, D, 1), ((3,) + A + C, D, 1)]),
]

# Two atoms, three and four, which are the same for each model.
TWO = (3, 6, 0, 0, 6, 1, 0)
THREE = (3, 6, 0, 0, 3, 6, 1, 0, 7, 0, 0)
FOUR = (3, 6, 0, 0, 3, 6, 1, 0, 3, 7, 0, 0, 7, 1, 0)
A_IN_ALL_NAMES = A + (3,) + B + (3,) + C + D
CIRCLE = [A + (6, 0) + B, B + (6, 0) + C, C + (6, 0) + B]
ROW = [A + (6, 0) + B, B + (6, 0) + C, C + (6, 0) + D]
# The last two say nothing of names 0 and 1, and have more than enough atoms.
OUTSIDE = [A + B, C + THREE, D + (3, 7, 1, 0, 3, 6, 0, 6, 0, 0, 7, 1, 1)]

# How many atoms the module and the concepts have; axioms; concepts; the answer if these are not too many.
COUNTED = [
    (0, [], (0, 0), 1),
    (6, [], (3,) + A + B + (4,) + C + (4,) + D + TWO, 0),
    (7, [], (3,) + A + B + (4,) + C + (4,) + D + THREE, 0),
    (6, [], A + (3,) + B + FOUR, 0),
    (7, [], A + (3,) + B + (3,) + C + FOUR, 0),
    (6, [], (6, 0) * 6 + (0,) + (6, 0, 0), 1),
    (7, [], (6, 0) * 7 + (0,) + (6, 0, 0), 1),
    (6, [], (6, 0) * 5 + A + (6, 0) * 5 + A, 1),
    (7, [], (6, 0) * 6 + A + (6, 0) * 5 + A, 0),
    (7, [], (6, 0) * 5 + A + (6, 1, 0), 0),
    # Equal ones count once, but these are not written alike.
    (4, [], (6, 0, 3) + A + B + (6, 0, 3) + B + A, 1),
    (7, [], (6, 0, 3, 3) + A + B + C + (3, 6, 0, 3) + A + (3,) + B + C + (3, 6, 0) + A + (6, 0) + B, 1),
    # In the module and in the concepts.
    (4, [A_IN_ALL_NAMES], A + B, 1),
    (6, [A_IN_ALL_NAMES], A + (4,) + C + TWO, 1),
    (7, [A_IN_ALL_NAMES], A + (4,) + C + THREE, 1),
    (6, [A_IN_ALL_NAMES], A + (3,) + D + (6, 1, 6, 0) + B, 0),
    (7, [A_IN_ALL_NAMES], A + (3,) + D + (6, 1, 6, 0, 6, 0) + B, 0),
    (6, [A_IN_ALL_NAMES, B + TWO], A + TWO, 1),
    (7, [A_IN_ALL_NAMES, B + THREE], A + TWO, 1),
    # Several axioms that share atoms.
    (5, CIRCLE, A + (6, 0) + C, 0),
    (6, CIRCLE, A + (6, 0, 6, 0) + C, 1),
    (7, CIRCLE, A + (6, 1) + D, 0),
    (7, ROW, A + (6, 0) + B, 1),
    (5, ROW, B + (6, 0) + C, 1),
    (6, ROW, B + (6, 0, 6, 0) + D, 1),
    (7, ROW, B + (4, 6, 0, 0, 6, 0, 6, 0) + D, 1),
    (6, [A + B] * 8, A + (4,) + B + FOUR, 1),
    (7, [A + B] * 8, A + (4,) + B + (4,) + C + FOUR, 1),
    (7, [A + B] * 8, A + (4,) + B + (4,) + D + FOUR, 1),
    # Outside the module.
    (2, OUTSIDE, A + B, 1),
    (2, OUTSIDE, B + A, 0),
    (6, OUTSIDE, (3,) + A + FOUR + B, 1),
    (5, OUTSIDE, C + (6, 0, 6, 1, 0), 0),
    (6, OUTSIDE, (3,) + C + A + B, 1),
    (7, OUTSIDE, (3,) + C + A + (4,) + B + (7, 1, 1), 1),
    (10, OUTSIDE, (3,) + A + D + (3,) + B + C, 0),
]


class Subsumption(unittest.TestCase):
    def test_without_axioms(self):
        for first, second, answer in ALONE:
            with self.subTest(first=first, second=second):
                self.assertEqual(ask(under(*first, *second)), [[answer]])

    def test_with_axioms(self):
        for axioms, told in WITH_AXIOMS:
            for first, second, answer in told:
                with self.subTest(axioms=axioms, first=first, second=second):
                    self.assertEqual(with_axioms(axioms, under(*first, *second)), [[answer]])
                    self.assertEqual(with_axioms(axioms[::-1], under(*first, *second)), [[answer]])

    def test_each_of_the_axioms_is_needed(self):
        axioms = [A + (6, 0) + B, B + C, (6, 0) + C + D]
        for index in range(3):
            self.assertEqual(with_axioms(axioms, under(*A, *D), drop(index), under(*A, *D)), [[1], [2], [0]])

    def test_the_axioms_that_are_there_now(self):
        results = ask(under(*A, *B), line(*A, *B), under(*A, *B), drop(0), under(*A, *B), line(*B, *A), under(*A, *B))
        self.assertEqual(results, [[0], [0], [1], [0], [0], [0], [0]])

    def test_the_longest_concepts(self):
        self.assertEqual(ask(under(*(5,) * 28, 0, 0), under(*(5,) * 27, *A, 0), under(*(3, 0) * 13, *A, *B)),
                         [[1], [1], [0]])


class Atoms(unittest.TestCase):
    def test_six_atoms_and_seven(self):
        for atoms, axioms, concepts, answer in COUNTED:
            with self.subTest(atoms=atoms, axioms=axioms, concepts=concepts):
                self.assertEqual(with_axioms(axioms, under(*concepts)), [[answer if atoms <= 6 else -7]])

    def test_a_dropped_axiom_counts_no_more(self):
        asked = under(*A, *NOTHING)
        self.assertEqual(with_axioms([A + THREE, A + (4,) + B + (3,) + C + D], asked, drop(0), asked), [[-7], [1], [0]])


class Errors(unittest.TestCase):
    def test_other_numbers_are_malformed(self):
        wrong = [(), ALL, A, (2,), A + (2,), A + B + C, (3, 0, 0), (8, 0), (0, 8), (2, 4, 0), (0, 2, 4), (6, 2, 0, 0),
                 (0, 7, 2, 0), (LARGEST, 0), (0, LARGEST), (0, 2, LARGEST), (5,) * 30, (6, 1) * 15, A + B + (0,)]
        for numbers in wrong:
            with self.subTest(numbers=numbers):
                self.assertEqual(with_axioms([A + B], under(*numbers), under(*A, *B)), [[-1], [1]])

    def test_malformed_comes_ahead_of_too_many_atoms(self):
        for atoms, axioms, concepts, answer in COUNTED:
            if atoms > 6:
                asked = [under(*concepts), under(*concepts, 0), under(*concepts[:-1]), under(*concepts, 8)]
                with self.subTest(concepts=concepts):
                    self.assertEqual(with_axioms(axioms, *asked), [[-7], [-1], [-1], [-1]])

    def test_behind_an_error_all_is_as_it_was(self):
        results = with_axioms(ROW, under(*A, *B), under(*A), under(*B, 6, 0, *C), part(1, 0), part(2, 1), line(0, 0))
        self.assertEqual(results, [[-7], [-1], [1], [3, 15, 1, 0, 1, 2], [2, 14, 1, 1, 2], [3]])


if __name__ == "__main__":
    unittest.main()
