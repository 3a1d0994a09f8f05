"""Reaching: which words' rows are free, what all rows of words hang on, which word weighs anything.

The numbers in a word's row grow with each sign, and far more in what is left
of it by clearing. So the search is done by rests: by what is left of numbers
that are divided by a modulus. What the rests tell is a guess, which is told
only where it is proven by whole numbers; else the next modulus is taken. The
moduli are Fermat's numbers: no two of them have a common divisor above 1, so
for any one question only a few are of no use.
"""

from math import gcd

from weighwords.machines import Step, dot, whole_row
from weighwords.shares import share

_FIRST_SIZE = 256
_SPARE_SIZE = 16


def _shrunk(rest, modulus, most):
    """A number of at most so much, and how many times the rest is taken for it, but for multiples of the modulus."""
    before, took = modulus, 0
    number, taken = rest, 1
    while number > most:
        many = before // number
        before, number = number, before - many * number
        took, taken = taken, took - many * taken
    return number, taken


def _times(row, many, modulus):
    """The row taken so many times, by rests."""
    return [number * many % modulus for number in row]


class Rests:
    """Rows of rests; those that hang on no kept ones are kept.

    Each kept row has 1 at a place of its own, its lead, where all others have 0.
    """

    def __init__(self, modulus):
        self.modulus = modulus
        self.leads = []
        self.rows = []

    def put(self, row):
        """True where the row is kept, False where it hangs on those kept.

        None where neither is known, since by this modulus no place of the row can lead.
        """
        left = self._cleared(row, self.leads, self.rows)
        for place, rest in enumerate(left):
            if gcd(rest, self.modulus) == 1:
                self._keep(left, place)
                return True
        if any(left):
            return None
        return False

    def _cleared(self, row, leads, kept):
        owed = [row[lead] for lead in leads]
        return [(number - dot(owed, [one[place] for one in kept])) % self.modulus for place, number in enumerate(row)]

    def _keep(self, row, place):
        _, inverse = _shrunk(row[place], self.modulus, 1)
        lead = _times(row, inverse, self.modulus)
        self.rows = [self._cleared(one, [place], [lead]) for one in self.rows] + [lead]
        self.leads.append(place)


def _hangs(row, leads, columns):
    """Whether the row is what its own places at the leads sum up to; columns have their whole numbers and a bottom."""
    owed = [row[lead] for lead in leads]
    return all(number * bottom == dot(owed, column) for number, (column, bottom) in zip(row, columns))


class Walk:
    """Begins that are led by the moves of each sign and weighed by ends.

    All of these are in whole numbers: rows are free, and weights nought, just as they are in shares.
    """

    def __init__(self, signs, begins, moves, ends):
        self.signs = signs
        self.begins, _ = whole_row(begins)
        self.steps = [Step(table) for table in moves]
        self.ends, _ = whole_row(ends)

    def tables(self, modulus):
        """The columns of the moves of each sign, by rests."""
        return [[_times(column, more % modulus, modulus) for column, more in zip(step.columns, step.more)]
                for step in self.steps]

    def bound(self, length):
        """A number that the weight of no shorter word is above, nor below its opposite."""
        if length == 0:
            return 0
        growth = 1
        for step in self.steps:
            for column, more in zip(step.columns, step.more):
                growth = max(growth, more * sum([abs(number) for number in column]))
        most = max([abs(number) for number in self.begins]) * sum([abs(number) for number in self.ends])
        for _ in range(length - 1):
            most = most * growth
        return most

    def proves(self, rows, leads):
        """Whether the rows of all words hang on these rows, and all these weigh nought."""
        columns = [whole_row([one[place] for one in rows]) for place in range(len(self.begins))]
        if not _hangs(self.begins, leads, columns):
            return False
        for row in rows:
            whole, _ = whole_row(row)
            if dot(whole, self.ends) != 0:
                return False
            if not all(_hangs(step.led(whole), leads, columns) for step in self.steps):
                return False
        return True


def _searched(walk, rests):
    """Puts rows of words, those of shorter words first, until one of them weighs anything.

    Told are the words whose rows were kept, and whether the last of them weighs anything; None, if put tells None.
    """
    tables = walk.tables(rests.modulus)
    words = []
    layer = [("", walk.begins)]
    while layer and len(words) < len(walk.begins):
        longer = []
        for word, row in layer:
            kept = rests.put(row)
            if kept is None:
                return None
            if kept:
                words.append(word)
                if dot(row, walk.ends) % rests.modulus != 0:
                    return words, True
                for sign, table in zip(walk.signs, tables):
                    longer.append((word + sign, [dot(row, column) % rests.modulus for column in table]))
        layer = longer
    return words, False


def _guessed(rests, most):
    """The kept rows in shares of numbers of at most so much, or None."""
    rows = []
    for row in rests.rows:
        guess = []
        for rest in row:
            top, bottom = _shrunk(rest, rests.modulus, most)
            if abs(bottom) > most:
                return None
            guess.append(share(top, bottom))
        rows.append(guess)
    return rows


class Found:
    """What is proven of the rows of all words.

    The word is a shortest one that weighs anything. Where it is None, the words have free rows, on which the rows of
    all words hang, as they do on the rows told here; each of these has 1 at its lead, where all others have 0.
    """

    def __init__(self, word, words, rows, leads):
        self.word = word
        self.words = words
        self.rows = rows
        self.leads = leads


def _tried(walk, size):
    """What is found by the modulus of this size, or None where it is not proven."""
    rests = Rests((1 << size) + 1)
    searched = _searched(walk, rests)
    if searched is None:
        return None
    words, weighs = searched
    if weighs:
        # Shorter words weigh nought by their rests, so they do at all if the modulus is above what they can weigh.
        if walk.bound(len(words[-1])) >= rests.modulus:
            return None
        return Found(words[-1], words, [], [])
    # With some spare, a guess that is wrong is hardly ever one of numbers so small.
    rows = _guessed(rests, 1 << (size // 2 - _SPARE_SIZE))
    if rows is None or not walk.proves(rows, rests.leads):
        return None
    return Found(None, words, rows, rests.leads)


def reached(signs, begins, moves, ends):
    """What is found of the rows of all words: begins, led by the moves of each sign and weighed by ends."""
    walk = Walk(signs, begins, moves, ends)
    size = _FIRST_SIZE
    found = _tried(walk, size)
    while found is None:
        size = size * 2
        found = _tried(walk, size)
    return found
