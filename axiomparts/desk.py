"""The desk: the axioms of one request, and the answers to its calls."""

from axiomparts.concepts import read_concepts
from axiomparts.models import is_local
from axiomparts.reader import Reader

BEGINS = 0
LINE = 1
DROP = 2
WORDS = 3
QUIET = 4

MALFORMED = -1
NO_SUCH_AXIOM = -2
TOO_MUCH = -7

MOST_AXIOMS = 8
MOST_ATOMS = 4
NAME_SETS = 16
ROLE_SETS = 4


class Desk:
    """The axioms of one request. Each operation gives its result as a list."""

    def __init__(self):
        self.axioms = []

    def begins(self):
        """Removes all axioms."""
        self.axioms = []
        return [0]

    def line(self, concepts):
        """Adds an axiom and gives its index."""
        axiom = read_concepts(concepts, 2)
        if axiom is None:
            return [MALFORMED]
        if len(self.axioms) >= MOST_AXIOMS or axiom.atom_count() > MOST_ATOMS:
            return [TOO_MUCH]
        self.axioms.append(axiom)
        return [len(self.axioms) - 1]

    def drop(self, index):
        """Removes an axiom and gives the number of those that are left."""
        if index >= len(self.axioms):
            return [NO_SUCH_AXIOM]
        self.axioms.pop(index)
        return [len(self.axioms)]

    def words(self, concept):
        """Gives the signature of a concept."""
        read = read_concepts(concept, 1)
        if read is None:
            return [MALFORMED]
        return [0, read.used_names(), read.used_roles()]

    def quiet(self, index, names, roles):
        """Tells whether an axiom is local for a signature."""
        if index >= len(self.axioms):
            return [NO_SUCH_AXIOM]
        if names >= NAME_SETS or roles >= ROLE_SETS:
            return [MALFORMED]
        return [1 if is_local(self.axioms[index], names, roles) else 0]


def answer_quiet(desk, reader):
    """Takes the arguments of a call of quiet, and gives its result."""
    index = reader.take_number()
    names = reader.take_number()
    roles = reader.take_number()
    return desk.quiet(index, names, roles)


def answer_next(desk, reader):
    """Takes the next call with its arguments, and gives its result."""
    call = reader.take_number()
    if call == BEGINS:
        return desk.begins()
    if call == LINE:
        return desk.line(reader.take_list())
    if call == DROP:
        return desk.drop(reader.take_number())
    if call == WORDS:
        return desk.words(reader.take_list())
    if call == QUIET:
        return answer_quiet(desk, reader)
    raise NotImplementedError(f"no call {call}")


def answers(calls):
    """Answers the calls of one request: for each, how many numbers, and these."""
    desk = Desk()
    reader = Reader(calls)
    given = []
    while reader.has_more():
        result = answer_next(desk, reader)
        given.append(len(result))
        given.extend(result)
    return given
