"""Building: machines from machines."""

from weighwords.errors import OtherSigns, TooMany
from weighwords.machines import MOST_ROOMS, Machine, columns_of, rooms
from weighwords.shares import plus, times

_NOUGHT = (0, 1)


def met(row, other):
    """The share of the one row's places, each times that of the other, added up."""
    total = _NOUGHT
    for part, its in zip(row, other):
        total = plus(total, times(part, its))
    return total


def _taken(row, part):
    return [times(place, part) for place in row]


def diagonal(table, other):
    """The table of the rooms of both, without a move from those of the one to those of the other."""
    ahead = [row + [_NOUGHT] * len(other) for row in table]
    behind = [[_NOUGHT] * len(table) + row for row in other]
    return ahead + behind


def check_signs(one, other):
    """OtherSigns, where those of the two machines differ."""
    if one.signs != other.signs:
        raise OtherSigns("the two machines have the same signs")


def _check(one, other, many):
    check_signs(one, other)
    if many > MOST_ROOMS:
        raise TooMany("a machine has at most twelve rooms")


def added(one, other):
    """The machine by which each word weighs the sum of what it weighs by both.

    OtherSigns, of machines whose signs differ, then TooMany, of more than twelve rooms together.
    """
    _check(one, other, rooms(one) + rooms(other))
    moves = [diagonal(table, its) for table, its in zip(one.moves, other.moves)]
    return Machine(one.signs, one.begins + other.begins, moves, one.ends + other.ends)


def _crossed(row, other):
    return [times(part, its) for part in row for its in other]


def beside(one, other):
    """The machine by which each word weighs the product of what it weighs by both.

    OtherSigns, of machines whose signs differ, then TooMany, of a product of more than twelve rooms.
    """
    _check(one, other, rooms(one) * rooms(other))
    begins = _crossed(one.begins, other.begins)
    moves = [[_crossed(row, its) for row in table for its in tables] for table, tables in zip(one.moves, other.moves)]
    return Machine(one.signs, begins, moves, _crossed(one.ends, other.ends))


def _handed_over(row, one, other):
    """The row, and behind it the other's begins, so many times as the row weighs by the one's ends."""
    return row + _taken(other.begins, met(row, one.ends))


def joined(one, other):
    """The machine by which each word weighs what its partings do: the first part by the one, the second by the other.

    OtherSigns, of machines whose signs differ, then TooMany, of more than twelve rooms together.
    """
    _check(one, other, rooms(one) + rooms(other))
    noughts = [_NOUGHT] * rooms(one)
    moves = []
    for table, its in zip(one.moves, other.moves):
        # The other begins behind each first part, so where this has just been gone to its end.
        ahead = [_handed_over(row, one, other) for row in table]
        moves.append(ahead + [noughts + row for row in its])
    return Machine(one.signs, _handed_over(one.begins, one, other), moves, noughts + other.ends)


def scaled(machine, part):
    """The machine by which each word weighs so many times what it weighed."""
    return Machine(machine.signs, _taken(machine.begins, part), machine.moves, machine.ends)


def turned(machine):
    """The machine by which each word weighs what it weighed when read from behind."""
    moves = [columns_of(table) for table in machine.moves]
    return Machine(machine.signs, machine.ends, moves, machine.begins)
