"""Concepts: read from numbers in prefix notation, and what occurs in them."""

ALL = 0
NAME = 2
BOTH = 3
EITHER = 4
LACK = 5
SOME = 6
EVERY = 7

# By the number that a concept begins with: how many names or roles there are
# to be written behind it (0: none is written), and how many concepts follow.
MARKS = (0, 0, 4, 0, 0, 0, 2, 2)
INNER = (0, 0, 0, 2, 2, 1, 1, 1)


class Concepts:
    """Concepts that were read together.

    Every concept that occurs has one row (head, mark, first, second): the
    number it begins with, its name or role, and the places of the rows of its
    inner concepts, which stand ahead of it. What isn't there is 0. Equal
    concepts share one row. The tops are the places of the concepts that were
    given, in their order; the numbers are what they were read from.
    """

    def __init__(self, numbers, rows, tops):
        self.numbers = numbers
        self.rows = rows
        self.tops = tops

    def atom_count(self):
        """How many atoms occur, equal ones counted once."""
        return len([row for row in self.rows if MARKS[row[0]] > 0])

    def used_names(self):
        """The names of the signature, as a number."""
        return marks_of(self.rows, (NAME,))

    def used_roles(self):
        """The roles of the signature, as a number."""
        return marks_of(self.rows, (SOME, EVERY))


def marks_of(rows, heads):
    """The marks of the rows that begin so, as a number with a bit for each."""
    found = 0
    for row in rows:
        if row[0] in heads:
            found = found | (1 << row[1])
    return found


def read_symbols(numbers, wanted):
    """The symbols (head, mark) of the wanted count of concepts, in order.

    None, if the numbers are not exactly so many concepts.
    """
    symbols = []
    missing = wanted
    at = 0
    while at < len(numbers):
        head = numbers[at]
        if missing == 0 or head > EVERY:
            return None
        missing = missing - 1 + INNER[head]
        at = at + 1
        mark = 0
        if MARKS[head] > 0:
            if at == len(numbers) or numbers[at] >= MARKS[head]:
                return None
            mark = numbers[at]
            at = at + 1
        symbols.append((head, mark))
    if missing > 0:
        return None
    return symbols


def row_of(symbol, waiting):
    """The row of a symbol, whose inner concepts are taken off the end of waiting."""
    count = INNER[symbol[0]]
    first = waiting.pop() if count > 0 else 0
    second = waiting.pop() if count > 1 else 0
    return (symbol[0], symbol[1], first, second)


def read_concepts(numbers, wanted):
    """The wanted count of concepts; None, if the numbers are not exactly these."""
    symbols = read_symbols(numbers, wanted)
    if symbols is None:
        return None
    rows = []
    places = {}
    waiting = []
    # From the end, so that the inner concepts are there before the outer one.
    for symbol in reversed(symbols):
        row = row_of(symbol, waiting)
        if row not in places:
            places[row] = len(rows)
            rows.append(row)
        waiting.append(places[row])
    return Concepts(numbers, rows, list(reversed(waiting)))


def read_together(parts):
    """The concepts of all parts as if read together, in their order."""
    numbers = []
    wanted = 0
    for part in parts:
        numbers.extend(part.numbers)
        wanted = wanted + len(part.tops)
    return read_concepts(numbers, wanted)
