"""Spans: rows of one length, and which of them hang on which.

A span works on lines. The line of a row has whole numbers alone: first its
places, taken so many times that no bottom is left, and then, for each row
kept so far and for the row itself, how many times this row is taken in the
places. A line is cleared by those kept, one by one: each brings nought to the
place that it leads.
"""

from math import lcm

from weighwords.errors import NoRow
from weighwords.shares import is_share, share


def _check(row, size):
    if type(row) != list or len(row) != size:
        raise NoRow("a row is a list of so many places as the span tells")
    for part in row:
        if not is_share(part):
            raise NoRow("a row has shares alone")


def _line(row, kept):
    """The line of a row behind so many kept ones, before it is cleared."""
    bottom = 1
    for part in row:
        bottom = lcm(bottom, part[1])
    places = [part[0] * (bottom // part[1]) for part in row]
    return places + [0] * kept + [bottom]


def _cleared(line, place, leader, before):
    """The line, cleared by the leader at the place that this leads.

    Before is what the leader ahead of this one has at its place (1 where
    there is none). It divides each number here without a rest, as Bareiss
    showed: so the numbers stay small without a search for common divisors.
    """
    lead = leader[place]
    owed = line[place]
    padded = leader + [0] * (len(line) - len(leader))
    return [(lead * mine - owed * its) // before for mine, its in zip(line, padded)]


class Span:
    """Rows of so many places; those that hang on no kept ones are kept."""

    def __init__(self, size):
        self._size = size
        # For each kept row the place that its line leads, and this line.
        self._leaders = []

    def put(self, row):
        """True where the row is kept, else False; NoRow, of what is no row."""
        line = self._all_cleared(row)
        for place in range(self._size):
            if line[place] != 0:
                self._leaders.append((place, line))
                return True
        return False

    def tells(self, row):
        """The shares by which the kept rows sum up to this one, or None.

        NoRow, of what is no row.
        """
        line = self._all_cleared(row)
        if any(line[:self._size]):
            return None
        # The kept rows and the row itself, taken so, sum up to noughts.
        own = line[-1]
        return [share(-taken, own) for taken in line[self._size:-1]]

    def many(self):
        """How many rows are kept."""
        return len(self._leaders)

    def _all_cleared(self, row):
        _check(row, self._size)
        line = _line(row, len(self._leaders))
        before = 1
        for place, leader in self._leaders:
            line = _cleared(line, place, leader, before)
            before = leader[place]
        return line
