"""Writes calls as the interface asks for them, and takes the answers apart."""

from axiomparts.desk import answers

LARGEST = 4294967295

# The axioms that the document's examples begin with.
EXAMPLE_AXIOMS = (
    (2, 0, 2, 1),
    (2, 1, 6, 0, 2, 2),
    (2, 3, 2, 0),
    (0, 4, 2, 2, 5, 2, 2),
    (5, 2, 3, 2, 2),
)


def begins():
    return [0]


def line(*concepts):
    return [1, len(concepts), *concepts]


def drop(index):
    return [2, index]


def words(*concept):
    return [3, len(concept), *concept]


def quiet(index, names, roles):
    return [4, index, names, roles]


def part(names, roles):
    return [5, names, roles]


def under(*concepts):
    return [6, len(concepts), *concepts]


def by(*concepts):
    return [7, len(concepts), *concepts]


def parts():
    return [8]


def lines(axioms):
    return [line(*axiom) for axiom in axioms]


def flat(calls):
    return [number for call in calls for number in call]


def ask(*calls):
    """The result of each call, as a list; all calls are one request."""
    given = answers(flat(calls))
    results = []
    at = 0
    while at < len(given):
        end = at + 1 + given[at]
        results.append(given[at + 1:end])
        at = end
    if at != len(given) or len(results) != len(calls):
        raise AssertionError(f"answers that are not {len(calls)} results: {given}")
    return results


def first_numbers(*calls):
    """The number that each call is answered with first."""
    return [result[0] for result in ask(*calls)]


def with_axioms(axioms, *calls):
    """The result of each call behind these axioms."""
    return ask(*lines(axioms), *calls)[len(axioms):]


def quiet_once(axiom, names, roles):
    """What quiet says of an axiom that is the only one."""
    return ask(line(*axiom), quiet(0, names, roles))[1]
