"""The points 1 to 8 of the document, with modules and questions of many sorts.

What the program tells is held against other ways to answer (tests/oracle.py)
and against what it tells itself of other signatures and other axioms.
"""

import itertools
import random
import unittest

from tests.helper import LARGEST, ask, by, drop, line, lines, part, parts, quiet, under, with_axioms, words
from tests.oracle import (atoms, follows_by_search, holds, local_by_search, module_by_sets, random_concept, read_axiom,
                          signature, small_models)

SIGNATURES = [(names, roles) for names in range(16) for roles in range(4)]


def contained(smaller, larger):
    return smaller & ~larger == 0


def atoms_of(axioms):
    return set().union(*[atoms(concept) for axiom in axioms for concept in axiom])


def random_axiom(chance, names=(0, 1, 2, 3), roles=(0, 1)):
    """An axiom with at most four atoms, short enough to be handed in."""
    while True:
        numbers = random_concept(chance, chance.choice((0, 0, 1, 1, 2)), names, roles)
        numbers += random_concept(chance, chance.choice((0, 0, 1, 1, 2)), names, roles)
        if len(numbers) <= 30 and len(atoms_of([read_axiom(numbers)])) <= 4:
            return numbers


def random_axioms(chance, least, most, names=(0, 1, 2, 3), roles=(0, 1)):
    return [random_axiom(chance, names, roles) for count in range(chance.randint(least, most))]


def marks(number):
    return [mark for mark in range(4) if number >> mark & 1]


def concepts_within(chance, names, roles, count):
    """Pairs of concepts that contain names and roles of the signature only."""
    found = []
    while len(found) < count:
        numbers = random_axiom(chance, marks(names) or (0,), marks(roles) or (0,))
        more_names, more_roles = signature(read_axiom(numbers))
        if contained(more_names, names) and contained(more_roles, roles):
            found.append(numbers)
    return found


def told_of_parts(axioms, signatures):
    """What part tells for each signature, with at most 12 calls of part a request."""
    told = []
    for at in range(0, len(signatures), 12):
        told += with_axioms(axioms, *[part(*one) for one in signatures[at:at + 12]])
    return told


class PartAgainstSets(unittest.TestCase):
    """part, by and parts find the smallest module of the document's third point."""

    def test_point_3(self):
        chance = random.Random(31)
        for count in range(120):
            axioms = random_axioms(chance, 1, 5)
            known = [read_axiom(axiom) for axiom in axioms]
            chosen = chance.sample(SIGNATURES, 6)
            for one, told in zip(chosen, told_of_parts(axioms, chosen)):
                self.assertEqual(told, module_by_sets(known, *one), (axioms, one))

    def test_point_3_for_by_and_parts(self):
        chance = random.Random(32)
        for count in range(100):
            axioms = random_axioms(chance, 1, 5)
            known = [read_axiom(axiom) for axiom in axioms]
            asked = random_axiom(chance)
            expected = module_by_sets(known, *signature(read_axiom(asked)))
            whole = [4]
            for name in range(4):
                module = module_by_sets(known, 1 << name, 0)
                whole += [module[0]] + module[3:]
            results = with_axioms(axioms, by(*asked), parts())
            self.assertEqual(results, [[expected[0]] + expected[3:], whole], (axioms, asked))

    def test_point_3_all_outside_are_local(self):
        chance = random.Random(33)
        for count in range(60):
            axioms = random_axioms(chance, 4, 8)
            size, names, roles, *inside = with_axioms(axioms, part(*chance.choice(SIGNATURES)))[0]
            self.assertEqual(len(inside), size)
            outside = [index for index in range(len(axioms)) if index not in inside]
            results = with_axioms(axioms, *[quiet(index, names, roles) for index in outside])
            self.assertEqual(results, [[1]] * len(outside), axioms)


class Meaning(unittest.TestCase):
    def test_point_1(self):
        chance = random.Random(11)
        told = []
        for count in range(150):
            axioms = random_axioms(chance, 2, 5)
            size, names, roles, *inside = with_axioms(axioms, part(*chance.choice(SIGNATURES)))[0]
            known = [read_axiom(axiom) for axiom in axioms]
            module = [known[index] for index in inside]
            for asked in concepts_within(chance, names, roles, 6):
                pair = read_axiom(asked)
                told.append(follows_by_search(known, pair))
                self.assertEqual(follows_by_search(module, pair), told[-1], (axioms, inside, asked))
        # Else this would tell little.
        self.assertTrue(200 < told.count(True) < len(told) - 200)

    def test_point_1_as_told_by_under(self):
        chance = random.Random(12)
        for count in range(150):
            axioms = random_axioms(chance, 2, 5)
            size, names, roles, *inside = with_axioms(axioms, part(*chance.choice(SIGNATURES)))[0]
            asked = [under(*pair) for pair in concepts_within(chance, names, roles, 6)]
            whole = with_axioms(axioms, *asked)
            self.assertEqual(with_axioms([axioms[index] for index in inside], *asked), whole, (axioms, inside, asked))

    def test_point_2(self):
        chance = random.Random(13)
        kept = 0
        for count in range(60):
            axioms = random_axioms(chance, 2, 5, names=(0, 1, 2), roles=(0,))
            size, names, roles, *inside = with_axioms(axioms, part(chance.randrange(8), chance.randrange(2)))[0]
            known = [read_axiom(axiom) for axiom in axioms]
            # Here nothing outside the signature has a meaning any more.
            for model in small_models(names, roles):
                if all(holds(known[index], *model) for index in inside):
                    kept += 1
                    self.assertTrue(all(holds(axiom, *model) for axiom in known), (axioms, inside, model))
        self.assertGreater(kept, 200)

    def test_point_4(self):
        chance = random.Random(14)
        told = []
        for count in range(700):
            axioms = random_axioms(chance, 1, 5, *chance.choice((((0, 1), (0,)), ((0, 1, 2), (0, 1)))))
            known = [read_axiom(axiom) for axiom in axioms]
            asked = [random_axiom(chance, (0, 1, 2), (0, 1)) for number in range(4)]
            for pair, result in zip(asked, with_axioms(axioms, *[under(*pair) for pair in asked])):
                told.append(result)
                question = read_axiom(pair)
                inside = module_by_sets(known, *signature(question))[3:]
                many = len(atoms_of([known[index] for index in inside] + [question])) > 6
                expected = -7 if many else 1 if follows_by_search(known, question) else 0
                self.assertEqual(result, [expected], (axioms, pair))
        for answer in (-7, 0, 1):
            self.assertGreater(told.count([answer]), 100)

    def test_point_5(self):
        chance = random.Random(15)
        for count in range(100):
            axioms = random_axioms(chance, 2, 8)
            asked = [(chance.randrange(len(axioms)), *chance.choice(SIGNATURES)) for number in range(12)]
            expected = [[1 if local_by_search(read_axiom(axioms[index]), names, roles) else 0]
                        for index, names, roles in asked]
            self.assertEqual(with_axioms(axioms, *[quiet(*one) for one in asked]), expected, (axioms, asked))


class Signatures(unittest.TestCase):
    def test_point_6_larger_signatures(self):
        chance = random.Random(16)
        for count in range(25):
            axioms = random_axioms(chance, 3, 8)
            told = dict(zip(SIGNATURES, told_of_parts(axioms, SIGNATURES)))
            for smaller, larger in itertools.product(SIGNATURES, repeat=2):
                if contained(smaller[0], larger[0]) and contained(smaller[1], larger[1]):
                    first, second = told[smaller], told[larger]
                    self.assertLessEqual(set(first[3:]), set(second[3:]), (axioms, smaller, larger))
                    self.assertTrue(contained(first[1], second[1]) and contained(first[2], second[2]))

    def test_point_6_the_signature_of_a_module(self):
        chance = random.Random(17)
        for count in range(40):
            axioms = random_axioms(chance, 3, 8)
            told = dict(zip(SIGNATURES, told_of_parts(axioms, SIGNATURES)))
            for one, module in told.items():
                self.assertEqual(told[module[1], module[2]], module, (axioms, one))
                self.assertTrue(contained(one[0], module[1]) and contained(one[1], module[2]))

    def test_point_7(self):
        chance = random.Random(18)
        added = 0
        for count in range(300):
            axioms = random_axioms(chance, 1, 6)
            more = random_axiom(chance)
            given = chance.choice(SIGNATURES)
            module = with_axioms(axioms, part(*given))[0]
            results = with_axioms(axioms, line(*more), quiet(len(axioms), *module[1:3]), part(*given))
            if results[1] == [1]:
                added += 1
                self.assertEqual(results[2], module, (axioms, more, given))
            else:
                self.assertIn(len(axioms), results[2][3:], (axioms, more, given))
        self.assertTrue(50 < added < 250)


# Each call with each of its errors; the axioms below are there.
AXIOMS = [(2, 0, 6, 0, 2, 1), (2, 1, 6, 0, 2, 2), (2, 2, 6, 0, 2, 3), (6, 1, 0, 2, 0), (2, 3, 0)]
FIVE_ATOMS = (3, 2, 0, 2, 1, 3, 2, 2, 3, 2, 3, 6, 0, 0)
WRONG = [
    (line(), -1), (line(2, 0), -1), (line(0, 0, 0), -1), (line(*FIVE_ATOMS, 0), -1), (line(*FIVE_ATOMS), -7),
    (drop(5), -2), (drop(LARGEST), -2), (words(), -1), (words(2, 4), -1), (words(0, 0), -1),
    (quiet(5, 0, 0), -2), (quiet(5, 16, 4), -2), (quiet(0, 16, 0), -1), (quiet(0, 0, 4), -1),
    (part(16, 0), -1), (part(0, 4), -1), (part(16, 4), -1), (part(LARGEST, LARGEST), -1),
    (under(), -1), (under(2, 0), -1), (under(2, 0, 2, 1, 0), -1), (under(2, 0, 2, 4), -1), (under(2, 0, 2, 1), -7),
    (by(), -1), (by(2, 0), -1), (by(2, 0, 2, 1, 0), -1), (by(6, 2, 0, 0), -1),
]
ASKED = [parts(), part(4, 0), part(0, 2), quiet(3, 0, 2), under(2, 2, 6, 0, 2, 3), by(2, 1, 0), line(2, 3, 2, 0),
         parts(), drop(0), drop(4), part(2, 0)]
TOLD = [[4, 3, 0, 1, 2, 2, 1, 2, 1, 2, 0], [1, 12, 1, 2], [4, 15, 3, 0, 1, 2, 3], [0], [1], [2, 1, 2], [5],
        [4, 4, 0, 1, 2, 5, 4, 0, 1, 2, 5, 4, 0, 1, 2, 5, 4, 0, 1, 2, 5], [5], [4], [2, 14, 1, 0, 1]]


class ErrorsChangeNothing(unittest.TestCase):
    def test_point_8(self):
        self.assertEqual(with_axioms(AXIOMS, *ASKED), TOLD)
        for call, error in WRONG:
            with self.subTest(call=call):
                self.assertEqual(with_axioms(AXIOMS, call, *ASKED), [[error]] + TOLD)

    def test_point_8_without_axioms(self):
        for call in (part(16, 0), under(2, 0), by(0), under(*FIVE_ATOMS, 0), drop(0), quiet(0, 0, 0), line(0)):
            results = ask(call, parts(), part(9, 2), line(2, 0, 2, 1), part(1, 0))
            self.assertLess(results[0][0], 0)
            self.assertEqual(results[1:], [[4, 0, 0, 0, 0], [0, 9, 2], [0], [1, 3, 0, 0]])

    def test_point_8_with_eight_axioms(self):
        full = [(2, mark, 2, (mark + 1) % 4) for mark in (3, 2, 1, 0)] * 2
        results = ask(*lines(full), line(0, 1), part(0, 0), part(1, 0), line(0, 0, 0), drop(8), part(0, 0), drop(7))
        self.assertEqual(results[8:], [[-7], [0, 0, 0], [8, 15, 0, 0, 1, 2, 3, 4, 5, 6, 7], [-1], [-2], [0, 0, 0], [7]])


if __name__ == "__main__":
    unittest.main()
