"""The calls part, by and parts: modules by hand-made cases, and their errors."""

import unittest

from tests.helper import (LARGEST, EXAMPLE_AXIOMS, ask, begins, by, drop, line, lines, part, parts, quiet, under,
                          with_axioms)

# Each name lies in the next one.
CHAIN = [(2, 0, 2, 1), (2, 1, 2, 2), (2, 2, 2, 3)]
# Name 0 needs role 0, what is related by role 0 to a name 1 needs role 1, and so on.
BY_ROLES = [(2, 0, 6, 0, 0), (6, 0, 2, 1, 6, 1, 0), (6, 1, 0, 2, 2)]
MIXED = CHAIN + [(6, 0, 0, 2, 0), (2, 3, 6, 1, 0), (0, 4, 2, 0, 5, 2, 0), (6, 1, 0, 6, 1, 2, 2)]

# Axioms, then (names, roles, answer) for some signatures.
CASES = [
    (CHAIN, [(1, 0, [3, 15, 0, 0, 1, 2]), (2, 0, [2, 14, 0, 1, 2]), (4, 0, [1, 12, 0, 2]), (8, 0, [0, 8, 0]),
             (0, 3, [0, 0, 3]), (9, 2, [3, 15, 2, 0, 1, 2]), (10, 0, [2, 14, 0, 1, 2])]),
    # What comes in by a role that an axiom has brought, and then by a name.
    (BY_ROLES, [(1, 0, [1, 1, 1, 0]), (3, 0, [3, 7, 3, 0, 1, 2]), (2, 1, [2, 6, 3, 1, 2]), (0, 2, [1, 4, 2, 2]),
                (0, 1, [0, 0, 1]), (4, 0, [0, 4, 0])]),
    ([(2, 0, 7, 0, 1), (6, 0, 0, 2, 1)], [(1, 0, [0, 1, 0]), (1, 1, [2, 3, 1, 0, 1]), (0, 1, [1, 2, 1, 1])]),
    # What is local stays outside, whatever it has in common with the signature.
    ([(2, 0, 2, 0), (2, 0, 0), (1, 2, 0), (0, 4, 2, 0, 5, 2, 0)], [(15, 3, [0, 15, 3]), (0, 0, [0, 0, 0])]),
    ([(2, 0, 2, 1), (2, 1, 2, 0)], [(1, 0, [2, 3, 0, 0, 1]), (2, 0, [2, 3, 0, 0, 1]), (12, 3, [0, 12, 3])]),
    # What is local for no signature is always in.
    ([(0, 1)], [(0, 0, [1, 0, 0, 0]), (15, 3, [1, 15, 3, 0])]),
    ([(2, 3, 2, 2), (0, 2, 3)], [(0, 0, [2, 12, 0, 0, 1]), (1, 0, [2, 13, 0, 0, 1])]),
    ([(5, 6, 1, 0, 2, 0), (6, 1, 0, 2, 3)], [(0, 0, [2, 9, 2, 0, 1])]),
    # Names and roles without a say in the axiom come into the signature too.
    ([(2, 0, 3, 2, 1, 4, 0, 6, 1, 2, 2), (2, 2, 2, 3)], [(1, 0, [2, 15, 2, 0, 1])]),
    # Equal axioms are two.
    ([(2, 0, 2, 1), (2, 0, 2, 1), (2, 2, 2, 1)], [(1, 0, [2, 3, 0, 0, 1]), (2, 0, [0, 2, 0])]),
    # Only both names together, or a name and a role together, make it non-local.
    ([(3, 2, 0, 2, 1, 2, 2)], [(1, 0, [0, 1, 0]), (2, 0, [0, 2, 0]), (3, 0, [1, 7, 0, 0])]),
    ([(6, 1, 2, 2, 2, 3)], [(4, 0, [0, 4, 0]), (4, 1, [0, 4, 1]), (4, 2, [1, 12, 2, 0]), (0, 2, [0, 0, 2])]),
]


class Part(unittest.TestCase):
    def test_cases(self):
        for axioms, told in CASES:
            for names, roles, answer in told:
                with self.subTest(axioms=axioms, names=names, roles=roles):
                    self.assertEqual(with_axioms(axioms, part(names, roles)), [answer])

    def test_no_axioms(self):
        for names in range(16):
            for roles in range(4):
                self.assertEqual(ask(part(names, roles)), [[0, names, roles]])

    def test_a_later_round_by_a_name(self):
        # The axioms come in one a round.
        for axioms in (CHAIN, CHAIN[::-1], [CHAIN[2], CHAIN[0], CHAIN[1]]):
            self.assertEqual(with_axioms(axioms, quiet(0, 1, 0), quiet(1, 1, 0), quiet(2, 1, 0)).count([1]), 2)
            self.assertEqual(with_axioms(axioms, part(1, 0)), [[3, 15, 0, 0, 1, 2]])

    def test_a_later_round_by_a_role(self):
        axioms = [(6, 1, 0, 2, 2), (2, 0, 6, 1, 0)]
        self.assertEqual(with_axioms(axioms, quiet(0, 1, 0), quiet(0, 5, 0), part(1, 0)), [[1], [1], [2, 5, 2, 0, 1]])

    def test_indexes_ascend_where_a_later_axiom_came_in_earlier(self):
        self.assertEqual(with_axioms(CHAIN[::-1], part(1, 0), part(2, 0)), [[3, 15, 0, 0, 1, 2], [2, 14, 0, 0, 1]])
        axioms = [(2, 2, 2, 3), (2, 3, 1), (2, 1, 2, 2), (2, 3, 2, 2), (2, 0, 2, 1)]
        self.assertEqual(with_axioms(axioms, part(1, 0)), [[5, 15, 0, 0, 1, 2, 3, 4]])
        self.assertEqual(with_axioms(axioms, part(2, 0)), [[4, 14, 0, 0, 1, 2, 3]])

    def test_all_axioms_of_a_round_are_held_against_the_same_signature(self):
        # Either way round the second one comes in, with the first or behind it.
        axioms = [(2, 0, 2, 1), (2, 1, 2, 0), (2, 3, 2, 2)]
        for order in ((0, 1, 2), (1, 0, 2)):
            self.assertEqual(with_axioms([axioms[at] for at in order], part(1, 0)), [[2, 3, 0, 0, 1]])

    def test_dropped_axioms(self):
        results = with_axioms(CHAIN, drop(1), part(1, 0), part(4, 0), drop(0), part(1, 0), part(4, 0), drop(0),
                              part(15, 3))
        self.assertEqual(results, [[2], [1, 3, 0, 0], [1, 12, 0, 1], [1], [0, 1, 0], [1, 12, 0, 0], [0], [0, 15, 3]])

    def test_axioms_that_are_there_again(self):
        results = with_axioms(CHAIN, drop(0), part(1, 0), line(*CHAIN[0]), part(1, 0), begins(), part(1, 0),
                              line(*CHAIN[0]), part(1, 0))
        self.assertEqual(results[1::2], [[0, 1, 0], [3, 15, 0, 0, 1, 2], [0, 1, 0], [1, 3, 0, 0]])

    def test_eight_axioms(self):
        axioms = [(2, mark, 2, (mark + 1) % 4) for mark in (3, 2, 1, 0)] * 2
        self.assertEqual(with_axioms(axioms, part(1, 0), part(0, 3)), [[8, 15, 0, 0, 1, 2, 3, 4, 5, 6, 7], [0, 0, 3]])

    def test_names_and_roles_just_in_and_just_out_of_range(self):
        asked = [part(15, 3), part(16, 3), part(15, 4), part(16, 4), part(0, 4), part(16, 0), part(LARGEST, 0),
                 part(0, LARGEST), part(LARGEST, LARGEST), part(17, 0), part(0, 5), part(15, 3)]
        whole = [4, 15, 3, 0, 1, 2, 4]
        self.assertEqual(with_axioms(EXAMPLE_AXIOMS, *asked), [whole] + [[-1]] * 10 + [whole])
        self.assertEqual(ask(part(16, 0), part(0, 4), part(16, 4)), [[-1]] * 3)


class By(unittest.TestCase):
    def test_an_empty_module(self):
        self.assertEqual(ask(by(0, 0), by(2, 0, 6, 1, 2, 3)), [[0], [0]])
        self.assertEqual(with_axioms(CHAIN, by(0, 1), by(2, 3, 2, 3), by(6, 0, 0, 7, 1, 1)), [[0], [0], [0]])

    def test_several_axioms(self):
        asked = [by(2, 0, 0), by(0, 2, 1), by(2, 2, 2, 3), by(6, 1, 0, 2, 3), by(5, 2, 1, 7, 0, 0), by(0, 0)]
        told = [[3, 0, 1, 2], [2, 1, 2], [1, 2], [0], [2, 1, 2], [0]]
        self.assertEqual(with_axioms(CHAIN, *asked), told)

    def test_names_and_roles_of_both_concepts_count(self):
        axioms = [(3, 2, 0, 2, 1, 1), (6, 1, 2, 2, 1), (6, 0, 0, 1)]
        asked = [by(2, 0, 2, 1), by(2, 1, 2, 0), by(2, 0, 2, 2), by(6, 1, 0, 2, 2), by(2, 2, 7, 1, 1), by(2, 2, 0),
                 by(0, 5, 7, 0, 7, 1, 2, 2), by(3, 2, 0, 2, 1, 3, 2, 2, 6, 1, 6, 0, 0)]
        told = [[1, 0], [1, 0], [0], [1, 1], [1, 1], [0], [2, 1, 2], [3, 0, 1, 2]]
        self.assertEqual(with_axioms(axioms, *asked), told)

    def test_indexes_ascend_where_a_later_axiom_came_in_earlier(self):
        self.assertEqual(with_axioms(CHAIN[::-1], by(2, 0, 0), by(0, 2, 1)), [[3, 0, 1, 2], [2, 0, 1]])

    def test_the_same_axioms_as_in_part(self):
        for names in range(16):
            concept = (3,) * 4
            for name in range(4):
                concept += (2, name) if names >> name & 1 else (0,)
            for roles, other in ((0, (1,)), (1, (6, 0, 0)), (2, (7, 1, 0)), (3, (7, 1, 6, 0, 1))):
                told, listed = with_axioms(MIXED, part(names, roles), by(*concept, 0, *other))
                self.assertEqual(listed, [told[0]] + told[3:])

    def test_there_is_no_limit_on_atoms(self):
        eight = (3, 2, 0, 3, 2, 1, 3, 2, 2, 2, 3, 3, 6, 0, 0, 3, 6, 1, 0, 3, 7, 0, 0, 7, 1, 0)
        self.assertEqual(with_axioms(CHAIN, by(*eight), under(*eight)), [[3, 0, 1, 2], [-7]])

    def test_other_numbers_are_malformed(self):
        wrong = [(), (0,), (2, 0), (2,), (2, 0, 2), (0, 0, 0), (2, 0, 2, 1, 0), (3, 0, 0), (8, 0), (0, 8), (2, 4, 0),
                 (0, 2, 4), (6, 2, 0, 0), (0, 7, 2, 0), (LARGEST, 0), (0, 2, LARGEST), (5,) * 30, (6, 1) * 15]
        for numbers in wrong:
            with self.subTest(numbers=numbers):
                self.assertEqual(with_axioms(CHAIN, by(*numbers), by(2, 1, 0)), [[-1], [2, 1, 2]])


class Parts(unittest.TestCase):
    def test_no_axioms(self):
        self.assertEqual(ask(parts(), line(2, 0, 1), begins(), parts()), [[4, 0, 0, 0, 0], [0], [0], [4, 0, 0, 0, 0]])

    def test_the_four_modules_differ(self):
        self.assertEqual(with_axioms(CHAIN, parts()), [[4, 3, 0, 1, 2, 2, 1, 2, 1, 2, 0]])
        self.assertEqual(with_axioms(CHAIN[::-1], parts()), [[4, 3, 0, 1, 2, 2, 0, 1, 1, 0, 0]])
        axioms = [(2, 3, 6, 1, 0), (2, 0, 1), (2, 2, 2, 3), (2, 3, 1)]
        self.assertEqual(with_axioms(axioms, parts()), [[4, 1, 1, 0, 3, 0, 2, 3, 2, 0, 3]])

    def test_the_signature_has_one_name_and_no_role(self):
        axioms = [(6, 0, 2, 0, 1), (3, 2, 0, 2, 1, 1), (2, 2, 7, 0, 1), (6, 1, 0, 2, 3)]
        self.assertEqual(with_axioms(axioms, parts()), [[4, 0, 0, 0, 0]])
        self.assertEqual(with_axioms([(0, 1)] * 2, parts()), [[4, 2, 0, 1, 2, 0, 1, 2, 0, 1, 2, 0, 1]])

    def test_the_same_axioms_as_in_part(self):
        for axioms in [told[0] for told in CASES] + [EXAMPLE_AXIOMS, MIXED]:
            results = with_axioms(axioms, parts(), *[part(1 << name, 0) for name in range(4)])
            expected = [4]
            for told in results[1:]:
                expected += [told[0]] + told[3:]
            self.assertEqual(results[0], expected)

    def test_dropped_axioms(self):
        results = with_axioms(CHAIN, drop(0), parts(), drop(1), parts())
        self.assertEqual(results[1::2], [[4, 0, 2, 0, 1, 1, 1, 0], [4, 0, 1, 0, 0, 0]])


class AskingChangesNothing(unittest.TestCase):
    def test_all_is_as_it_was(self):
        asked = [part(1, 0), by(2, 1, 0), under(2, 0, 2, 3), parts()]
        told = [[3, 15, 0, 0, 1, 2], [2, 1, 2], [1], [4, 3, 0, 1, 2, 2, 1, 2, 1, 2, 0]]
        results = with_axioms(CHAIN, *asked * 3, drop(3), line(0, 0))
        self.assertEqual(results, told * 3 + [[-2], [3]])


if __name__ == "__main__":
    unittest.main()
