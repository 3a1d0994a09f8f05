"""Making small: machines with as few rooms as their weights allow, and why fewer do not do."""

from weighwords.building import met, turned
from weighwords.machines import Machine, rooms
from weighwords.reaching import reached


def _rows_of_words(machine):
    """What is found of the rows of all words, whatever they weigh."""
    return reached(machine.signs, machine.begins, machine.moves, [(0, 1)] * rooms(machine))


def _at_leads(row, table, leads):
    """The places at the leads of the row led by the table."""
    return [met(row, [its[lead] for its in table]) for lead in leads]


def _held(machine):
    """The machine with a room for each of the free rows on which the rows of words hang.

    So many times as the places of a row tell at the leads, it takes these free rows.
    """
    found = _rows_of_words(machine)
    begins = [machine.begins[lead] for lead in found.leads]
    moves = [[_at_leads(row, table, found.leads) for row in found.rows] for table in machine.moves]
    ends = [met(row, machine.ends) for row in found.rows]
    return Machine(machine.signs, begins, moves, ends)


def small(machine):
    """A machine with the same weights and as few rooms as can be."""
    # Holding the turned machine leaves the rows of words free, so once from each side is enough.
    return turned(_held(turned(_held(machine))))


def grounds(machine):
    """Firsts and lasts, as many words each as the small machine has rooms.

    The rows of weights of each first with each of the lasts behind it are free.
    """
    least = small(machine)
    firsts = _rows_of_words(least).words
    lasts = [word[::-1] for word in _rows_of_words(turned(least)).words]
    return (firsts, lasts)
