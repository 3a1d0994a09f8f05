"""Machines: rooms, ways through them, and what these make each word weigh.

Rows of words are reckoned over one bottom: by whole numbers, the tops, and the
bottom that all of them have. So nothing is divided before the last sign.
"""

from math import lcm

from weighwords.errors import NoMachine, NoWord, TooMany
from weighwords.shares import is_share, plus, share

MOST_ROOMS = 12
_MOST_SIGNS = 6
_LETTERS = "abcdefghijklmnopqrstuvwxyz"


def dot(row, other):
    """The places of the one row, each times that of the other, added up; all are whole numbers."""
    return sum([number * its for number, its in zip(row, other)])


def columns_of(table):
    """The columns of a table that has as many rows as places in each."""
    return [[row[place] for row in table] for place in range(len(table))]


def whole_row(row):
    """The tops of a row of shares over their least common bottom, and this bottom."""
    bottom = 1
    for part in row:
        bottom = lcm(bottom, part[1])
    return [top * (bottom // below) for top, below in row], bottom


class Step:
    """A table of moves in whole numbers, by which rows of whole numbers are led."""

    def __init__(self, table):
        wholes = [whole_row(column) for column in columns_of(table)]
        self.columns = [column for column, _ in wholes]
        self.bottom = 1
        for _, below in wholes:
            self.bottom = lcm(self.bottom, below)
        # Where there are many bottoms, that of one column is far less than that of all: so each
        # place is summed over its own, and only the sum is taken so many times more.
        self.more = [self.bottom // own for _, own in wholes]

    def led(self, row):
        """The row led by the moves, over as many times its bottom as this step's bottom tells."""
        return [dot(row, column) * more for column, more in zip(self.columns, self.more)]


def _are_signs(thing):
    if type(thing) != str or len(thing) > _MOST_SIGNS:
        return False
    # Only where they rise, each once, are they the letters in their own order.
    return thing == "".join(letter for letter in _LETTERS if letter in thing)


def _is_row(thing, size):
    return type(thing) == list and len(thing) == size and all(is_share(part) for part in thing)


def _is_table(thing, size):
    return type(thing) == list and len(thing) == size and all(_is_row(row, size) for row in thing)


def _are_moves(thing, many, size):
    return type(thing) == list and len(thing) == many and all(_is_table(table, size) for table in thing)


def _check(signs, begins, moves, ends):
    if not _are_signs(signs):
        raise NoMachine("signs are a text of none to six letters from a to z, rising, each once")
    if type(begins) != list or not _is_row(begins, len(begins)):
        raise NoMachine("begins are a list of shares")
    if not _is_row(ends, len(begins)):
        raise NoMachine("ends are a list of shares, as many as begins")
    if not _are_moves(moves, len(signs), len(begins)):
        raise NoMachine("moves are a list with, for each sign, a list of rows of shares, from and to each room")
    if len(begins) > MOST_ROOMS:
        raise TooMany("a machine has at most twelve rooms")


class Machine:
    """Rooms, and what it is worth to begin there, to move by each sign and to end there.

    NoMachine, of what is none, then TooMany, of what has more than twelve rooms.
    """

    def __init__(self, signs, begins, moves, ends):
        _check(signs, begins, moves, ends)
        self.signs = signs
        self.begins = list(begins)
        self.moves = [[list(row) for row in table] for table in moves]
        self.ends = list(ends)
        # The same over one bottom each, since many words are asked of one machine.
        self._begins = whole_row(begins)
        self._steps = {sign: Step(table) for sign, table in zip(signs, moves)}
        self._ends = whole_row(ends)


def rooms(machine):
    """How many rooms the machine has."""
    return len(machine.begins)


def _check_word(machine, word):
    if type(word) != str:
        raise NoWord("a word is a text")
    for sign in word:
        if sign not in machine.signs:
            raise NoWord("a word has signs of the machine alone")


def _gone(machine, steps):
    """The tops and the bottom of the row to which the steps lead, one behind the other."""
    tops, bottom = machine._begins
    for step in steps:
        tops = step.led(tops)
        bottom = bottom * step.bottom
    return tops, bottom


def _ended(machine, steps):
    """What the row to which the steps lead weighs."""
    tops, bottom = _gone(machine, steps)
    ends, below = machine._ends
    return share(dot(tops, ends), bottom * below)


def row_of(machine, word):
    """The row of the word; NoWord, of what is no word of the machine."""
    _check_word(machine, word)
    tops, bottom = _gone(machine, [machine._steps[sign] for sign in word])
    return [share(top, bottom) for top in tops]


def weight(machine, word):
    """The weight of the word; NoWord, of what is no word of the machine."""
    _check_word(machine, word)
    return _ended(machine, [machine._steps[sign] for sign in word])


def _all_moves(machine):
    """One table with, from each room to each room, the moves of all signs added."""
    total = [[(0, 1)] * rooms(machine) for _ in machine.begins]
    for table in machine.moves:
        total = [[plus(part, its) for part, its in zip(row, other)] for row, other in zip(total, table)]
    return total


def summed(machine, many):
    """The sum of the weights of all words of so many signs."""
    # A row led by all moves added is the sum of the rows that each sign leads it to.
    return _ended(machine, [Step(_all_moves(machine))] * many)
