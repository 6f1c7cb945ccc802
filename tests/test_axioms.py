"""The calls begins, line, drop and words."""

import unittest

from tests.helper import LARGEST, ask, begins, drop, first_numbers, line, lines, quiet, words

ONE_CONCEPT = [
    (0,), (1,), (2, 0), (2, 3), (3, 0, 1), (4, 2, 0, 2, 3), (5, 1), (6, 0, 0), (6, 1, 2, 3), (7, 0, 1), (7, 1, 2, 0),
    (5, 5, 5, 0), (3, 3, 0, 1, 4, 1, 0), (6, 0, 7, 1, 5, 2, 2), (5,) * 29 + (0,), (3,) * 14 + (0,) * 15 + (),
    (3, 0) * 14 + (2, 3),
]

NO_CONCEPT = [
    (), (2,), (3,), (3, 0), (4, 0), (5,), (6,), (6, 0), (7,), (7, 1), (8,), (9, 0), (LARGEST,),
    (2, 4), (2, LARGEST), (6, 2, 0), (7, 2, 0), (6, LARGEST, 0), (7, 4294967294, 0), (2, 0, 4), (3, 0, 8),
    (3, 2, 0, 2), (6, 0, 2), (6, 0, 2, 4), (5, 7, 2, 0), (3, 2, 4, 0), (5,) * 30, (6, 0) * 15,
    (0, 0), (1, 0), (2, 0, 0), (5, 0, 0), (3, 0, 0, 0), (6, 0, 0, 0), (0, 8), (0, 2), (0, LARGEST), (2, 3, 2, 3),
]

# The counts of atoms stand ahead.
COUNTED = [
    (0, (0, 1)),
    (0, (3, 0, 1, 4, 5, 0, 1)),
    (1, (2, 0, 2, 0)),
    (1, (3, 2, 3, 5, 2, 3, 4, 2, 3, 2, 3)),
    (4, (3, 2, 0, 2, 1, 3, 2, 2, 2, 3)),
    (4, (3, 3, 2, 0, 2, 1, 3, 2, 2, 2, 3, 4, 4, 2, 0, 2, 1, 4, 2, 2, 2, 3)),
    (4, (3, 2, 0, 2, 1, 3, 2, 2, 6, 0, 0)),
    (5, (3, 2, 0, 2, 1, 4, 3, 2, 2, 2, 3, 6, 0, 0)),
    (4, (6, 0, 6, 0, 6, 0, 2, 0, 0)),
    (5, (6, 0, 6, 0, 6, 0, 6, 0, 2, 0, 0)),
    (4, (0, 6, 0, 6, 1, 7, 0, 7, 1, 1)),
    (5, (0, 6, 0, 6, 1, 7, 0, 7, 1, 2, 3)),
    (5, (2, 1, 6, 0, 6, 1, 7, 0, 7, 1, 1)),
    (2, (6, 0, 2, 0, 6, 0, 2, 0)),
    (3, (6, 0, 2, 0, 6, 1, 2, 0)),
    (3, (6, 0, 2, 0, 7, 0, 2, 0)),
    (4, (6, 0, 2, 0, 6, 0, 2, 1)),
    (4, (3, 6, 0, 2, 0, 7, 0, 2, 0, 5, 6, 1, 2, 0)),
    (5, (3, 6, 0, 2, 0, 7, 0, 2, 0, 3, 7, 1, 2, 0, 6, 1, 2, 0)),
    # The same for each model, but written otherwise: different atoms.
    (4, (6, 0, 3, 2, 0, 2, 1, 6, 0, 3, 2, 1, 2, 0)),
    (5, (6, 0, 3, 2, 0, 2, 1, 3, 6, 0, 3, 2, 1, 2, 0, 6, 0, 2, 0)),
    (4, (6, 0, 0, 3, 6, 0, 5, 1, 3, 7, 0, 0, 7, 0, 5, 1)),
    (5, (6, 0, 0, 3, 6, 0, 5, 1, 3, 7, 0, 0, 4, 7, 0, 5, 1, 6, 1, 0)),
]


class Begins(unittest.TestCase):
    def test_removes_all_axioms(self):
        results = first_numbers(begins(), line(2, 0, 0), line(0, 2, 0), begins(), drop(0), quiet(0, 0, 0), line(0, 0))
        self.assertEqual(results, [0, 0, 1, 0, -2, -2, 0])

    def test_makes_room_for_eight_again(self):
        full = lines([(0, 0)] * 8)
        results = first_numbers(*full, line(0, 0), begins(), *full, line(0, 0))
        self.assertEqual(results, [0, 1, 2, 3, 4, 5, 6, 7, -7, 0, 0, 1, 2, 3, 4, 5, 6, 7, -7])


class Line(unittest.TestCase):
    def test_indexes_begin_with_zero(self):
        self.assertEqual(ask(*lines([(0, 1), (2, 0, 2, 1), (0, 1)])), [[0], [1], [2]])

    def test_two_concepts_are_an_axiom(self):
        for concept in ONE_CONCEPT:
            for axiom in ((0,) + concept, concept + (0,), concept + concept):
                if len(axiom) <= 30:
                    with self.subTest(axiom=axiom):
                        self.assertEqual(ask(line(*axiom)), [[0]])

    def test_the_longest_axiom(self):
        self.assertEqual(ask(line(*(5,) * 28, 0, 0), line(*(3,) * 14, *(0,) * 16)), [[0], [1]])

    def test_one_concept_alone_is_malformed(self):
        for concept in ONE_CONCEPT:
            with self.subTest(concept=concept):
                self.assertEqual(ask(line(*concept)), [[-1]])

    def test_three_concepts_are_malformed(self):
        for concept in ONE_CONCEPT[:12]:
            with self.subTest(concept=concept):
                self.assertEqual(ask(line(0, 1, *concept)), [[-1]])
                self.assertEqual(ask(line(*concept, 1, 0)), [[-1]])

    def test_other_numbers_are_malformed(self):
        wrong = [(), (2,), (0,), (0, 2), (2, 0, 2), (0, 3, 0), (0, 8), (8, 0), (0, LARGEST), (LARGEST, 0)]
        wrong += [(2, 4, 0), (0, 2, 4), (0, 2, LARGEST), (6, 2, 0, 0), (0, 6, 2, 0), (7, 2, 0, 0), (0, 7, LARGEST, 0)]
        wrong += [(5,) * 30, (6, 1) * 15, (2, 0, 2, 0, 2), (0, 0, 8)]
        for numbers in wrong:
            with self.subTest(numbers=numbers):
                self.assertEqual(ask(line(*numbers)), [[-1]])

    def test_names_and_roles_just_in_range(self):
        axioms = [(2, 0, 2, 3), (6, 0, 0, 6, 1, 0), (7, 0, 1, 7, 1, 1)]
        self.assertEqual(ask(*lines(axioms)), [[0], [1], [2]])

    def test_eight_axioms_and_the_ninth(self):
        results = first_numbers(*lines([(2, 0, 2, 1)] * 9), drop(3), line(0, 0), line(0, 0))
        self.assertEqual(results, [0, 1, 2, 3, 4, 5, 6, 7, -7, 7, 7, -7])

    def test_four_atoms_and_five(self):
        for atoms, axiom in COUNTED:
            with self.subTest(axiom=axiom):
                self.assertEqual(ask(line(*axiom)), [[0 if atoms <= 4 else -7]])

    def test_malformed_comes_first(self):
        full = lines([(0, 0)] * 8)
        for wrong in ((), (2,), (0, 2, 4), (0, 0, 0), (3, 2, 0, 2, 1, 3, 2, 2, 3, 2, 3, 6, 0, 0, 0)):
            with self.subTest(wrong=wrong):
                self.assertEqual(ask(*full, line(*wrong))[8], [-1])
        five_atoms_and_more = (3, 2, 0, 2, 1, 3, 2, 2, 3, 2, 3, 6, 0, 0)
        self.assertEqual(ask(line(*five_atoms_and_more), line(*five_atoms_and_more, 0)), [[-7], [-1]])
        self.assertEqual(ask(*full, line(*five_atoms_and_more))[8], [-7])


class Drop(unittest.TestCase):
    def test_gives_how_many_are_left(self):
        self.assertEqual(first_numbers(*lines([(0, 0)] * 3), drop(0), drop(1), drop(0)), [0, 1, 2, 2, 1, 0])

    def test_later_indexes_decrease_and_earlier_ones_stay(self):
        axioms = [(2, 0, 1), (2, 1, 1), (2, 2, 1), (2, 3, 1)]
        for dropped in range(4):
            results = ask(*lines(axioms), drop(dropped), *[quiet(at, 1 << name, 0) for at in range(3)
                                                           for name in range(4)])
            kept = [name for name in range(4) if name != dropped]
            told = [[0 if name == kept[at] else 1] for at in range(3) for name in range(4)]
            with self.subTest(dropped=dropped):
                self.assertEqual(results[4], [3])
                self.assertEqual(results[5:], told)

    def test_the_index_just_in_and_just_out_of_range(self):
        self.assertEqual(first_numbers(drop(0)), [-2])
        axioms = lines([(0, 0)] * 8)
        self.assertEqual(first_numbers(*axioms, drop(8), drop(LARGEST), drop(7), drop(7), drop(6))[8:],
                         [-2, -2, 7, -2, 6])

    def test_the_next_axiom_comes_behind_the_others(self):
        results = ask(line(2, 0, 1), line(2, 1, 1), drop(0), line(2, 2, 1), quiet(0, 2, 0), quiet(1, 4, 0))
        self.assertEqual(results[2:], [[1], [1], [0], [0]])


class Words(unittest.TestCase):
    def test_each_name_and_role(self):
        for name in range(4):
            self.assertEqual(ask(words(2, name)), [[0, 1 << name, 0]])
        for role in range(2):
            self.assertEqual(ask(words(6, role, 0), words(7, role, 1)), [[0, 0, 1 << role]] * 2)

    def test_what_occurs_inside_other_concepts(self):
        self.assertEqual(ask(words(0), words(1), words(5, 3, 0, 1)), [[0, 0, 0]] * 3)
        self.assertEqual(ask(words(6, 0, 7, 1, 5, 2, 2)), [[0, 4, 3]])
        self.assertEqual(ask(words(4, 3, 2, 0, 2, 0, 5, 6, 1, 2, 3)), [[0, 9, 2]])
        self.assertEqual(ask(words(3, 2, 0, 3, 2, 1, 3, 2, 2, 3, 2, 3, 3, 6, 0, 0, 7, 1, 1)), [[0, 15, 3]])

    def test_what_never_has_a_meaning_counts_as_well(self):
        self.assertEqual(ask(words(3, 1, 2, 3), words(4, 0, 6, 1, 2, 0)), [[0, 8, 0], [0, 1, 2]])

    def test_there_may_be_more_than_four_atoms(self):
        self.assertEqual(ask(words(*(6, 0, 6, 1) * 7, 2, 3)), [[0, 8, 3]])

    def test_one_concept_is_read(self):
        for concept in ONE_CONCEPT:
            with self.subTest(concept=concept):
                result = ask(words(*concept))[0]
                self.assertEqual((len(result), result[0]), (3, 0))

    def test_other_numbers_are_malformed(self):
        for numbers in NO_CONCEPT:
            with self.subTest(numbers=numbers):
                self.assertEqual(ask(words(*numbers)), [[-1]])

    def test_axioms_play_no_part(self):
        self.assertEqual(ask(*lines([(2, 0, 6, 1, 2, 3)] * 8), words(2, 1), quiet(7, 1, 0))[8:], [[0, 2, 0], [0]])


if __name__ == "__main__":
    unittest.main()
