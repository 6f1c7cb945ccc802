"""quiet against two other ways to decide locality.

One goes through all models of one and of two elements, as the document words
it; the other is a search for an element that shows that an axiom doesn't hold.
"""

import itertools
import random
import unittest

from tests.helper import ask, line, quiet


def read(numbers, at):
    """The concept that begins at this place, as nested tuples, and the place behind it."""
    head = numbers[at]
    if head in (0, 1):
        return (head,), at + 1
    if head == 2:
        return (2, numbers[at + 1]), at + 2
    if head in (3, 4):
        first, middle = read(numbers, at + 1)
        second, end = read(numbers, middle)
        return (head, first, second), end
    if head == 5:
        inner, end = read(numbers, at + 1)
        return (5, inner), end
    inner, end = read(numbers, at + 2)
    return (head, numbers[at + 1], inner), end


def read_axiom(numbers):
    first, middle = read(numbers, 0)
    second, end = read(numbers, middle)
    assert end == len(numbers)
    return first, second


def atoms(concept):
    found = {concept} if concept[0] in (2, 6, 7) else set()
    for inner in concept[1:]:
        if isinstance(inner, tuple):
            found |= atoms(inner)
    return found


def having(concept, size, named, pairs):
    """The elements of the model that have the concept."""
    head = concept[0]
    everyone = frozenset(range(size))
    if head == 0:
        return everyone
    if head == 1:
        return frozenset()
    if head == 2:
        return named[concept[1]]
    if head == 3:
        return having(concept[1], size, named, pairs) & having(concept[2], size, named, pairs)
    if head == 4:
        return having(concept[1], size, named, pairs) | having(concept[2], size, named, pairs)
    if head == 5:
        return everyone - having(concept[1], size, named, pairs)
    inner = having(concept[2], size, named, pairs)
    related = {x: {z for y, z in pairs[concept[1]] if y == x} for x in everyone}
    if head == 6:
        return frozenset(x for x in everyone if related[x] & inner)
    return frozenset(x for x in everyone if related[x] <= inner)


def subsets(things):
    things = list(things)
    return [frozenset(part) for size in range(len(things) + 1) for part in itertools.combinations(things, size)]


def models(size, names, roles):
    """All models of this size with nothing outside the signature, for names 0, 1 and both roles."""
    parts = subsets(range(size))
    relations = subsets(itertools.product(range(size), repeat=2))
    nothing = [frozenset()]
    choices = [parts if names >> name & 1 else nothing for name in (0, 1)]
    choices += [relations if roles >> role & 1 else nothing for role in (0, 1)]
    for first, second, one, other in itertools.product(*choices):
        yield (first, second), (one, other)


def holds_in_small_models(axiom, names, roles):
    for size in (1, 2):
        for named, pairs in models(size, names, roles):
            if not having(axiom[0], size, named, pairs) <= having(axiom[1], size, named, pairs):
                return False
    return True


def possible(todo, done, names, roles):
    """Whether an element can have (True) and lack (False) these concepts."""
    if not todo:
        return settled(done, names, roles)
    (concept, had), rest = todo[0], todo[1:]
    head = concept[0]
    if head in (0, 1):
        return had == (head == 0) and possible(rest, done, names, roles)
    if head == 5:
        return possible([(concept[1], not had)] + rest, done, names, roles)
    if head in (3, 4):
        both = [(concept[1], had), (concept[2], had)]
        if had == (head == 3):
            return possible(both + rest, done, names, roles)
        return any(possible([one] + rest, done, names, roles) for one in both)
    return possible(rest, done | {(concept, had)}, names, roles)


def settled(done, names, roles):
    for concept, had in done:
        head = concept[0]
        if head == 2 and had and ((concept, False) in done or not names >> concept[1] & 1):
            return False
        if head in (6, 7) and had == (head == 6):
            if not roles >> concept[1] & 1:
                return False
            needed = [(concept[2], had)]
            needed += [(other[2], kept) for other, kept in done
                       if other[0] in (6, 7) and other[1] == concept[1] and kept == (other[0] == 7)]
            if not possible(needed, frozenset(), names, roles):
                return False
    return True


def local_by_search(axiom, names, roles):
    return not possible([(axiom[0], True), (axiom[1], False)], frozenset(), names, roles)


def small_concepts():
    """All concepts of names 0 and 1 and both roles with at most two heads, and some larger ones."""
    least = [(0,), (1,), (2, 0), (2, 1)]
    larger = [(5,) + one for one in least]
    larger += [(head, role) + one for head in (6, 7) for role in (0, 1) for one in least]
    larger += [(head,) + one + other for head in (3, 4) for one in least[2:] for other in least[2:]]
    return least + larger


def random_concept(chance, depth):
    head = chance.choice((0, 1, 2, 2, 2)) if depth == 0 else chance.choice((2, 3, 3, 4, 4, 5, 6, 6, 7, 7))
    if head < 2:
        return (head,)
    if head == 2:
        return (2, chance.choice((0, 1)))
    if head == 5:
        return (5,) + random_concept(chance, depth - 1)
    if head < 5:
        return (head,) + random_concept(chance, depth - 1) + random_concept(chance, depth - 1)
    return (head, chance.choice((0, 0, 1))) + random_concept(chance, depth - 1)


def random_axioms(chance, count):
    """Axioms with three or four atoms, at least one of them a restriction."""
    found = []
    while len(found) < count:
        numbers = random_concept(chance, chance.choice((2, 3))) + random_concept(chance, chance.choice((1, 2, 3)))
        if len(numbers) > 30:
            continue
        first, second = read_axiom(numbers)
        kinds = atoms(first) | atoms(second)
        if 3 <= len(kinds) <= 4 and any(kind[0] > 2 for kind in kinds):
            found.append(numbers)
    return found


SIGNATURES = [(names, roles) for names in range(4) for roles in range(4)]


def told_of(numbers, signatures):
    """What quiet tells of the axiom for each signature, with at most 12 calls of quiet a request."""
    told = []
    for at in range(0, len(signatures), 12):
        asked = [quiet(0, names, roles) for names, roles in signatures[at:at + 12]]
        told += ask(line(*numbers), *asked)[1:]
    return told


class AgainstTheSearch(unittest.TestCase):
    def compare(self, axioms):
        for numbers in axioms:
            axiom = read_axiom(numbers)
            expected = [[1 if local_by_search(axiom, names, roles) else 0] for names, roles in SIGNATURES]
            self.assertEqual(told_of(numbers, SIGNATURES), expected, numbers)

    def test_all_small_axioms(self):
        concepts = small_concepts()
        self.compare(first + second for first in concepts for second in concepts)

    def test_larger_axioms(self):
        self.compare(random_axioms(random.Random(20), 1500))


class AgainstSmallModels(unittest.TestCase):
    def test_where_an_axiom_fails_in_a_small_model_it_is_not_local(self):
        signatures = [(1, 1), (1, 2), (3, 1), (2, 2), (0, 3), (3, 0)]
        for numbers in random_axioms(random.Random(21), 60):
            axiom = read_axiom(numbers)
            for signature, told in zip(signatures, told_of(numbers, signatures)):
                if not holds_in_small_models(axiom, *signature):
                    self.assertEqual(told, [0], (numbers, signature))

    def test_axioms_of_one_restriction_fail_in_small_models_if_at_all(self):
        signatures = [(0, 0), (1, 1), (1, 0), (0, 1), (3, 1), (2, 1)]
        flat = [(0,), (1,), (2, 0), (2, 1), (5, 2, 0)]
        limits = [(head, role) + inner for head in (6, 7) for role in (0, 1) for inner in flat]
        for first, second in list(itertools.product(flat, limits)) + list(itertools.product(limits, flat)):
            axiom = read_axiom(first + second)
            expected = [[1 if holds_in_small_models(axiom, *signature) else 0] for signature in signatures]
            self.assertEqual(told_of(first + second, signatures), expected, first + second)


if __name__ == "__main__":
    unittest.main()
