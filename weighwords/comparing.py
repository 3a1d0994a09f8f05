"""Comparing: whether two machines give each word the same weight."""

from weighwords.building import check_signs, diagonal
from weighwords.reaching import reached
from weighwords.shares import less


def compared(one, other):
    """("unlike", word), a shortest word that weighs another share, or ("alike", rows), on which all rows hang.

    OtherSigns, of machines whose signs differ.
    """
    check_signs(one, other)
    begins = one.begins + other.begins
    moves = [diagonal(table, its) for table, its in zip(one.moves, other.moves)]
    # A word weighs by these just by how much its two weights differ.
    ends = one.ends + [less((0, 1), part) for part in other.ends]
    found = reached(one.signs, begins, moves, ends)
    if found.word is not None:
        return ("unlike", found.word)
    return ("alike", found.rows)
