"""Other ways to answer, as slow and plain as the document's words.

One goes through all models of one and of two elements; the other searches for
an element that shows that something doesn't follow. Concepts are nested tuples.
"""

import itertools


def read(numbers, at):
    """The concept that begins at this place, as nested tuples, and the place behind it."""
    head = numbers[at]
    if head in (0, 1):
        return (head,), at + 1
    if head == 2:
        return (2, numbers[at + 1]), at + 2
    if head in (3, 4):
        first, middle = read(numbers, at + 1)
        second, end = read(numbers, middle)
        return (head, first, second), end
    if head == 5:
        inner, end = read(numbers, at + 1)
        return (5, inner), end
    inner, end = read(numbers, at + 2)
    return (head, numbers[at + 1], inner), end


def read_axiom(numbers):
    first, middle = read(numbers, 0)
    second, end = read(numbers, middle)
    assert end == len(numbers)
    return first, second


def atoms(concept):
    found = {concept} if concept[0] in (2, 6, 7) else set()
    for inner in concept[1:]:
        if isinstance(inner, tuple):
            found |= atoms(inner)
    return found


def signature(*axioms):
    """The names and the roles that occur in these axioms, as two numbers."""
    names = roles = 0
    for atom in set().union(*[atoms(concept) for axiom in axioms for concept in axiom]):
        if atom[0] == 2:
            names |= 1 << atom[1]
        else:
            roles |= 1 << atom[1]
    return names, roles


def having(concept, size, named, pairs):
    """The elements of the model that have the concept."""
    head = concept[0]
    everyone = frozenset(range(size))
    if head == 0:
        return everyone
    if head == 1:
        return frozenset()
    if head == 2:
        return named[concept[1]]
    if head == 3:
        return having(concept[1], size, named, pairs) & having(concept[2], size, named, pairs)
    if head == 4:
        return having(concept[1], size, named, pairs) | having(concept[2], size, named, pairs)
    if head == 5:
        return everyone - having(concept[1], size, named, pairs)
    inner = having(concept[2], size, named, pairs)
    related = {x: {z for y, z in pairs[concept[1]] if y == x} for x in everyone}
    if head == 6:
        return frozenset(x for x in everyone if related[x] & inner)
    return frozenset(x for x in everyone if related[x] <= inner)


def holds(axiom, size, named, pairs):
    return having(axiom[0], size, named, pairs) <= having(axiom[1], size, named, pairs)


def subsets(things):
    things = list(things)
    return [frozenset(part) for size in range(len(things) + 1) for part in itertools.combinations(things, size)]


def models(size, names, roles):
    """All models of this size with nothing outside the signature."""
    parts = subsets(range(size))
    relations = subsets(itertools.product(range(size), repeat=2))
    nothing = [frozenset()]
    choices = [parts if names >> name & 1 else nothing for name in range(4)]
    choices += [relations if roles >> role & 1 else nothing for role in range(2)]
    for meaning in itertools.product(*choices):
        yield size, meaning[:4], meaning[4:]


def small_models(names, roles):
    return itertools.chain(models(1, names, roles), models(2, names, roles))


def holds_in_small_models(axiom, names, roles):
    return all(holds(axiom, *model) for model in small_models(names, roles))


class Search:
    """Looks for elements in models of the axioms with nothing outside the signature."""

    def __init__(self, axioms, names, roles):
        self.kept = [((4, (5, first), second), True) for first, second in axioms]
        self.names = names
        self.roles = roles

    def element(self, needed, above):
        """Whether there can be an element that has (True) and lacks (False) what is needed."""
        needed = frozenset(needed)
        # The element above that needed the same can stand for this one, too.
        return needed in above or self.possible(sorted(needed) + self.kept, frozenset(), above + (needed,))

    def possible(self, todo, done, above):
        if not todo:
            return self.settled(done, above)
        (concept, had), rest = todo[0], todo[1:]
        head = concept[0]
        if head in (0, 1):
            return had == (head == 0) and self.possible(rest, done, above)
        if head == 5:
            return self.possible([(concept[1], not had)] + rest, done, above)
        if head in (3, 4):
            both = [(concept[1], had), (concept[2], had)]
            if had == (head == 3):
                return self.possible(both + rest, done, above)
            return any(self.possible([one] + rest, done, above) for one in both)
        if (concept, not had) in done:
            return False
        return self.possible(rest, done | {(concept, had)}, above)

    def settled(self, done, above):
        return all(self.one_settled(concept, had, done, above) for concept, had in sorted(done))

    def one_settled(self, concept, had, done, above):
        head = concept[0]
        if head == 2:
            return not had or self.names >> concept[1] & 1 == 1
        if had != (head == 6):
            return True
        if not self.roles >> concept[1] & 1:
            return False
        needed = [(concept[2], had)]
        needed += [(other[2], kept) for other, kept in done
                   if other[0] in (6, 7) and other[1] == concept[1] and kept == (other[0] == 7)]
        return self.element(needed, above)


def follows_by_search(axioms, axiom, names=15, roles=3):
    """Whether the axiom holds in each model of the axioms with nothing outside the signature."""
    return not Search(axioms, names, roles).element([(axiom[0], True), (axiom[1], False)], ())


def local_by_search(axiom, names, roles):
    return follows_by_search([], axiom, names, roles)


def module_by_sets(axioms, names, roles):
    """The smallest set of axioms for whose names and roles, and the given ones, all others are local.

    As answered by part: how many axioms, the signature, the indexes.
    """
    indexes = range(len(axioms))
    for size in range(len(axioms) + 1):
        for inside in itertools.combinations(indexes, size):
            more_names, more_roles = signature(*[axioms[index] for index in inside])
            whole = (names | more_names, roles | more_roles)
            if all(local_by_search(axioms[index], *whole) for index in indexes if index not in inside):
                return [size, *whole, *inside]


def random_concept(chance, depth, names=(0, 1), roles=(0, 0, 1)):
    """A concept of these names and roles, as numbers; what stands twice is drawn more often."""
    head = chance.choice((0, 1, 2, 2, 2)) if depth == 0 else chance.choice((2, 3, 3, 4, 4, 5, 6, 6, 7, 7))
    if head < 2:
        return (head,)
    if head == 2:
        return (2, chance.choice(names))
    inner = random_concept(chance, depth - 1, names, roles)
    if head == 5:
        return (5,) + inner
    if head < 5:
        return (head,) + inner + random_concept(chance, depth - 1, names, roles)
    return (head, chance.choice(roles)) + inner
