"""The desk: the axioms of one request, and the answers to its calls."""

from axiomparts.concepts import read_concepts, read_together
from axiomparts.models import is_local, is_subsumed
from axiomparts.modules import module_for
from axiomparts.reader import Reader

BEGINS = 0
LINE = 1
DROP = 2
WORDS = 3
QUIET = 4
PART = 5
UNDER = 6
BY = 7

MALFORMED = -1
NO_SUCH_AXIOM = -2
TOO_MUCH = -7

MOST_AXIOMS = 8
MOST_ATOMS = 4
MOST_ATOMS_UNDER = 6
NAMES = 4
NAME_SETS = 16
ROLE_SETS = 4


class Desk:
    """The axioms of one request. Each operation gives its result as a list."""

    def __init__(self):
        self.axioms = []

    def module_of(self, concepts):
        """The module for the signature of these concepts."""
        return module_for(self.axioms, concepts.used_names(), concepts.used_roles())

    def begins(self):
        """Removes all axioms."""
        self.axioms = []
        return [0]

    def line(self, concepts):
        """Adds an axiom and gives its index."""
        axiom = read_concepts(concepts, 2)
        if axiom is None:
            return [MALFORMED]
        if len(self.axioms) >= MOST_AXIOMS or axiom.atom_count() > MOST_ATOMS:
            return [TOO_MUCH]
        self.axioms.append(axiom)
        return [len(self.axioms) - 1]

    def drop(self, index):
        """Removes an axiom and gives the number of those that are left."""
        if index >= len(self.axioms):
            return [NO_SUCH_AXIOM]
        self.axioms.pop(index)
        return [len(self.axioms)]

    def words(self, concept):
        """Gives the signature of a concept."""
        read = read_concepts(concept, 1)
        if read is None:
            return [MALFORMED]
        return [0, read.used_names(), read.used_roles()]

    def quiet(self, index, names, roles):
        """Tells whether an axiom is local for a signature."""
        if index >= len(self.axioms):
            return [NO_SUCH_AXIOM]
        if names >= NAME_SETS or roles >= ROLE_SETS:
            return [MALFORMED]
        return [1 if is_local(self.axioms[index], names, roles) else 0]

    def part(self, names, roles):
        """Gives the module for a signature: how many axioms, its signature, their indexes."""
        if names >= NAME_SETS or roles >= ROLE_SETS:
            return [MALFORMED]
        module = module_for(self.axioms, names, roles)
        return [len(module.indexes), module.names, module.roles] + module.indexes

    def under(self, concepts):
        """Tells whether the first concept is subsumed by the second one with all axioms."""
        asked = read_concepts(concepts, 2)
        if asked is None:
            return [MALFORMED]
        needed = [self.axioms[index] for index in self.module_of(asked).indexes]
        together = read_together(needed + [asked])
        if together.atom_count() > MOST_ATOMS_UNDER:
            return [TOO_MUCH]
        return [1 if is_subsumed(together) else 0]

    def by(self, concepts):
        """Gives the axioms of the module for the signature of both concepts."""
        asked = read_concepts(concepts, 2)
        if asked is None:
            return [MALFORMED]
        return self.module_of(asked).listed()

    def parts(self):
        """Gives for each name the axioms of the module for it alone."""
        result = [NAMES]
        for name in range(NAMES):
            result.extend(module_for(self.axioms, 1 << name, 0).listed())
        return result


def answer_quiet(desk, reader):
    """Takes the arguments of a call of quiet, and gives its result."""
    index = reader.take_number()
    names = reader.take_number()
    roles = reader.take_number()
    return desk.quiet(index, names, roles)


def answer_part(desk, reader):
    """Takes the arguments of a call of part, and gives its result."""
    names = reader.take_number()
    roles = reader.take_number()
    return desk.part(names, roles)


def answer_next(desk, reader):
    """Takes the next call with its arguments, and gives its result."""
    call = reader.take_number()
    if call == BEGINS:
        return desk.begins()
    if call == LINE:
        return desk.line(reader.take_list())
    if call == DROP:
        return desk.drop(reader.take_number())
    if call == WORDS:
        return desk.words(reader.take_list())
    if call == QUIET:
        return answer_quiet(desk, reader)
    if call == PART:
        return answer_part(desk, reader)
    if call == UNDER:
        return desk.under(reader.take_list())
    if call == BY:
        return desk.by(reader.take_list())
    # No other call than parts is left.
    return desk.parts()


def answers(calls):
    """Answers the calls of one request: for each, how many numbers, and these."""
    desk = Desk()
    reader = Reader(calls)
    given = []
    while reader.has_more():
        result = answer_next(desk, reader)
        given.append(len(result))
        given.extend(result)
    return given
