"""quiet against two other ways to decide locality.

One goes through all models of one and of two elements, as the document words
it; the other is a search for an element that shows that an axiom doesn't hold.
"""

import itertools
import random
import unittest

from tests.helper import ask, line, quiet
from tests.oracle import atoms, holds_in_small_models, local_by_search, random_concept, read_axiom


def small_concepts():
    """All concepts of names 0 and 1 and both roles with at most two heads, and some larger ones."""
    least = [(0,), (1,), (2, 0), (2, 1)]
    larger = [(5,) + one for one in least]
    larger += [(head, role) + one for head in (6, 7) for role in (0, 1) for one in least]
    larger += [(head,) + one + other for head in (3, 4) for one in least[2:] for other in least[2:]]
    return least + larger


def random_axioms(chance, count):
    """Axioms with three or four atoms, at least one of them a restriction."""
    found = []
    while len(found) < count:
        numbers = random_concept(chance, chance.choice((2, 3))) + random_concept(chance, chance.choice((1, 2, 3)))
        if len(numbers) > 30:
            continue
        first, second = read_axiom(numbers)
        kinds = atoms(first) | atoms(second)
        if 3 <= len(kinds) <= 4 and any(kind[0] > 2 for kind in kinds):
            found.append(numbers)
    return found


SIGNATURES = [(names, roles) for names in range(4) for roles in range(4)]


def told_of(numbers, signatures):
    """What quiet tells of the axiom for each signature, with at most 12 calls of quiet a request."""
    told = []
    for at in range(0, len(signatures), 12):
        asked = [quiet(0, names, roles) for names, roles in signatures[at:at + 12]]
        told += ask(line(*numbers), *asked)[1:]
    return told


class AgainstTheSearch(unittest.TestCase):
    def compare(self, axioms):
        for numbers in axioms:
            axiom = read_axiom(numbers)
            expected = [[1 if local_by_search(axiom, names, roles) else 0] for names, roles in SIGNATURES]
            self.assertEqual(told_of(numbers, SIGNATURES), expected, numbers)

    def test_all_small_axioms(self):
        concepts = small_concepts()
        self.compare(first + second for first in concepts for second in concepts)

    def test_larger_axioms(self):
        self.compare(random_axioms(random.Random(20), 1500))


class AgainstSmallModels(unittest.TestCase):
    def test_where_an_axiom_fails_in_a_small_model_it_is_not_local(self):
        signatures = [(1, 1), (1, 2), (3, 1), (2, 2), (0, 3), (3, 0)]
        for numbers in random_axioms(random.Random(21), 60):
            axiom = read_axiom(numbers)
            for signature, told in zip(signatures, told_of(numbers, signatures)):
                if not holds_in_small_models(axiom, *signature):
                    self.assertEqual(told, [0], (numbers, signature))

    def test_axioms_of_one_restriction_fail_in_small_models_if_at_all(self):
        signatures = [(0, 0), (1, 1), (1, 0), (0, 1), (3, 1), (2, 1)]
        flat = [(0,), (1,), (2, 0), (2, 1), (5, 2, 0)]
        limits = [(head, role) + inner for head in (6, 7) for role in (0, 1) for inner in flat]
        for first, second in list(itertools.product(flat, limits)) + list(itertools.product(limits, flat)):
            axiom = read_axiom(first + second)
            expected = [[1 if holds_in_small_models(axiom, *signature) else 0] for signature in signatures]
            self.assertEqual(told_of(first + second, signatures), expected, first + second)


if __name__ == "__main__":
    unittest.main()
