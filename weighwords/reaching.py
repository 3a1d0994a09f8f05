"""Reaching: which words' rows are free, what all rows of words hang on, which word weighs anything.

The numbers in a word's row grow with each sign, and far more in what is left
of it by clearing. So the search is done by rests: by what is left of numbers
that are divided by a modulus. It is done again by other moduli, which have no
common divisor above 1 with those before, until what they agree on is proven by
whole numbers. Only those moduli mislead that have a common divisor with some
few numbers, so at last they do agree on what is so.
"""

from math import factorial, gcd, lcm

from weighwords.machines import Step, dot, whole_row
from weighwords.shares import share

# The bits of a modulus: with fewer, Python takes nearly as long for each number.
_SIZE = 512
# With so many bits to spare, a guess that is wrong is hardly ever one of small numbers.
_SPARE_SIZE = 16


def _shrunk(rest, modulus, most):
    """A number of at most so much, and how many times the rest is taken for it, but for multiples of the modulus."""
    before, took = modulus, 0
    number, taken = rest, 1
    while number > most:
        many = before // number
        before, number = number, before - many * number
        took, taken = taken, took - many * taken
    return number, taken


def _inverse(number, modulus):
    """How many times the number is taken for a rest of 1."""
    _, taken = _shrunk(number % modulus, modulus, 1)
    return taken


def _times(row, many, modulus):
    """The row taken so many times, by rests."""
    return [number * many % modulus for number in row]


class Moduli:
    """Numbers of one size, no two of which have a common divisor above 1."""

    def __init__(self):
        self.last = 1 << _SIZE
        # Small divisors would often mislead, so they are kept out from the first.
        self.barred = factorial(100)

    def another(self):
        """A modulus that was not told before."""
        self.last += 1
        while gcd(self.last, self.barred) > 1:
            self.last += 1
        self.barred = self.barred * self.last
        return self.last


class Rests:
    """Rows of rests; those that hang on no kept ones are kept.

    Each kept row has 1 at a place of its own, its lead, where all others have 0.
    """

    def __init__(self, modulus):
        self.modulus = modulus
        self.leads = []
        self.rows = []

    def put(self, row):
        """True where the row is kept, False where it hangs on those kept; None where the modulus does not tell."""
        left = self._cleared(row, self.leads, self.rows)
        for place, rest in enumerate(left):
            if rest != 0:
                if gcd(rest, self.modulus) > 1:
                    return None
                self._keep(left, place)
                return True
        return False

    def _cleared(self, row, leads, kept):
        owed = [row[lead] for lead in leads]
        return [(number - dot(owed, [one[place] for one in kept])) % self.modulus for place, number in enumerate(row)]

    def _keep(self, row, place):
        lead = _times(row, _inverse(row[place], self.modulus), self.modulus)
        self.rows = [self._cleared(one, [place], [lead]) for one in self.rows] + [lead]
        self.leads.append(place)


def _hangs(row, leads, columns):
    """Whether the row is what its own places at the leads sum up to; columns have their whole numbers and a bottom."""
    owed = [row[lead] for lead in leads]
    return all(number * bottom == dot(owed, column) for number, (column, bottom) in zip(row, columns))


def _growth(step):
    """By no more bits than so many do the places of rows grow where the step leads them."""
    return max([more.bit_length() + sum([abs(number) for number in column]).bit_length()
                for column, more in zip(step.columns, step.more)], default=0)


class Walk:
    """Begins that are led by the moves of each sign and weighed by ends.

    All of these are in whole numbers: rows are free, and weights nought, just as they are in shares.
    """

    def __init__(self, signs, begins, moves, ends):
        self.signs = signs
        self.begins, _ = whole_row(begins)
        self.steps = [Step(table) for table in moves]
        self.ends, _ = whole_row(ends)
        self.growth = max([_growth(step) for step in self.steps], default=0)

    def tables(self, modulus):
        """The columns of the moves of each sign, by rests."""
        return [[_times(column, more % modulus, modulus) for column, more in zip(step.columns, step.more)]
                for step in self.steps]

    def bits(self, length):
        """No weight of a shorter word has more bits than so many."""
        if length == 0:
            return 0
        begins = max([abs(number) for number in self.begins])
        ends = sum([abs(number) for number in self.ends])
        return begins.bit_length() + (length - 1) * self.growth + ends.bit_length()

    def proves(self, rows, leads):
        """Whether the rows of all words hang on these rows, and all these weigh nought."""
        columns = [whole_row([one[place] for one in rows]) for place in range(len(self.begins))]
        if not _hangs(self.begins, leads, columns):
            return False
        for row in rows:
            whole, _ = whole_row(row)
            if dot(whole, self.ends) != 0:
                return False
            if not all(_hangs(step.led(whole), leads, columns) for step in self.steps):
                return False
        return True


class Found:
    """What is proven of the rows of all words.

    The word is a shortest one that weighs anything. Where it is None, the words have free rows, on which the rows of
    all words hang, as they do on the rows told here; each of these has 1 at its lead, where all others have 0.
    """

    def __init__(self, word, words, rows, leads):
        self.word = word
        self.words = words
        self.rows = rows
        self.leads = leads


def _searched(walk, rests):
    """Puts rows of words, those of shorter words first, until one of them weighs anything.

    Told are the words whose rows were kept, and whether the last of them weighs anything; None, if put tells None.
    """
    tables = walk.tables(rests.modulus)
    words = []
    layer = [("", walk.begins)]
    while layer and len(words) < len(walk.begins):
        longer = []
        for word, row in layer:
            kept = rests.put(row)
            if kept is None:
                return None
            if kept:
                words.append(word)
                if dot(row, walk.ends) % rests.modulus != 0:
                    return words, True
                for sign, table in zip(walk.signs, tables):
                    longer.append((word + sign, [dot(row, column) % rests.modulus for column in table]))
        layer = longer
    return words, False


def _guessed(rest, bottom, modulus, most):
    """The share of small numbers that has this rest, or None; soon told where it has nearly such a bottom."""
    top, more = _shrunk(rest * bottom % modulus, modulus, most)
    if abs(more) > most:
        return None
    return share(top, bottom * more)


def _guessed_rows(rows, modulus):
    """The rows of shares of small numbers that have these rests, or None."""
    most = 1 << (modulus.bit_length() // 2 - _SPARE_SIZE)
    bottom = 1
    guesses = []
    for row in rows:
        guess = []
        for rest in row:
            part = _guessed(rest, bottom, modulus, most)
            if part is None and bottom > 1:
                bottom = 1
                part = _guessed(rest, bottom, modulus, most)
            if part is None:
                return None
            bottom = lcm(bottom, part[1])
            guess.append(part)
        guesses.append(guess)
    return guesses


class Agreed:
    """What one search tells, or what several ones agree on, by rests of the product of their moduli."""

    def __init__(self, words, weighs, rests):
        self.words = words
        self.weighs = weighs
        self.leads = rests.leads
        # Where a word weighs anything, its rows are not asked for.
        self.rows = [] if weighs else rests.rows
        self.modulus = rests.modulus
        self.searches = 1

    def joins(self, other):
        """Whether the other tells the same; if so, it is joined to this."""
        if (self.words, self.weighs, self.leads) != (other.words, other.weighs, other.leads):
            return False
        inverse = _inverse(self.modulus, other.modulus)
        self.rows = [[rest + (its - rest) * inverse % other.modulus * self.modulus for rest, its in zip(row, theirs)]
                     for row, theirs in zip(self.rows, other.rows)]
        self.modulus = self.modulus * other.modulus
        self.searches += 1
        return True

    def proven(self, walk):
        """What is found, or None where it is not proven so far."""
        if self.weighs:
            # Shorter words weigh nought by rests, so they do at all if the modulus is above what they can weigh.
            if walk.bits(len(self.words[-1])) >= self.modulus.bit_length():
                return None
            return Found(self.words[-1], self.words, [], [])
        # Guessing takes long, so it is done again only where there are twice as many searches.
        if (self.searches & (self.searches - 1)) != 0:
            return None
        rows = _guessed_rows(self.rows, self.modulus)
        if rows is None or not walk.proves(rows, self.leads):
            return None
        return Found(None, self.words, rows, self.leads)


def reached(signs, begins, moves, ends):
    """What is found of the rows of all words: begins, led by the moves of each sign and weighed by ends."""
    walk = Walk(signs, begins, moves, ends)
    moduli = Moduli()
    agreed = None
    found = None
    while found is None:
        rests = Rests(moduli.another())
        searched = _searched(walk, rests)
        if searched is not None:
            words, weighs = searched
            told = Agreed(words, weighs, rests)
            if agreed is None or not agreed.joins(told):
                agreed = told
            found = agreed.proven(walk)
    return found
