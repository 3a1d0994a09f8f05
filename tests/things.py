"""What several tests need: shares and machines reckoned by fractions, and things that are none of ours."""

from fractions import Fraction
from itertools import product
from random import Random

from weighwords.errors import NoMachine, NoRow, NoText, NoWord, Nought, OtherSigns, TooMany, WeighError
from weighwords.machines import Machine
from weighwords.shares import is_share

KINDS = [Nought, NoText, NoRow, NoMachine, NoWord, OtherSigns, TooMany]

# The greatest number of sixty figures, and some others of as many.
BIG = 10 ** 60 - 1
BIGS = [BIG, 10 ** 59, 10 ** 59 + 1, 2 ** 199, 3 ** 125, 7 ** 70, 123456789 * 10 ** 51 + 1]


class Hostile:
    """Raises at whatever it is asked."""

    def __bool__(self):
        raise RuntimeError("asked for its truth")

    def __eq__(self, other):
        raise RuntimeError("compared")

    def __len__(self):
        raise RuntimeError("measured")

    def __iter__(self):
        raise RuntimeError("gone over")

    def __repr__(self):
        raise RuntimeError("shown")

    __hash__ = None


def other_things():
    """Things that are neither a share, nor a text, nor a list."""
    return [None, True, False, 0, 1, -1, BIG, 10 ** 5000, 0.5, 1.0, float("nan"), 1j, b"1/2", b"", bytearray(b"1"),
            {}, {0: 1, 1: 2}, {1, 2}, frozenset((1, 2)), range(2), Fraction(1, 2), object(), int, tuple, len,
            iter([1, 2]), (part for part in (1, 2)), slice(1, 2), Ellipsis, NotImplemented, ValueError("x"),
            Hostile()]


def fraction(part):
    return Fraction(part[0], part[1])


def part_of(worth):
    """The share of a Fraction or an int."""
    worth = Fraction(worth)
    return (worth.numerator, worth.denominator)


def small_parts(seed, many, most=9):
    """So many shares of small numbers, the same ones for the same seed."""
    chance = Random(seed)
    return [part_of(Fraction(chance.randint(-most, most), chance.randint(1, most))) for _ in range(many)]


def big_parts(seed, many):
    """So many shares of up to sixty figures in top and in bottom."""
    chance = Random(seed)
    return [part_of(Fraction(chance.randint(-BIG, BIG), chance.randint(1, BIG))) for _ in range(many)]


def assert_share(test, part, worth):
    """The part is just the share of the worth, of plain ints."""
    test.assertIs(type(part), tuple)
    test.assertEqual([type(number) for number in part], [int, int])
    worth = Fraction(worth)
    test.assertEqual(part, (worth.numerator, worth.denominator))


def assert_refused(test, kind, function, *handed):
    """The call is refused by just this kind, which is a WeighError and a ValueError."""
    for caught in (kind, WeighError, ValueError):
        with test.assertRaises(caught) as held:
            function(*handed)
        test.assertIs(type(held.exception), kind)
    for other in KINDS:
        if other is not kind:
            test.assertNotIsInstance(held.exception, other)


def rare_parts(seed, many):
    """So many shares, most of them nought."""
    chance = Random(seed)
    return [part_of(chance.choice([0, 0, 0, 0, 1, -1, 2, Fraction(1, 2), Fraction(-2, 3)])) for _ in range(many)]


def copied(plan):
    """The plan, with lists of its own."""
    signs, begins, moves, ends = plan
    return (signs, list(begins), [[list(row) for row in table] for table in moves], list(ends))


def plan_of(size, signs, seed, parts=small_parts):
    """Signs, begins, moves and ends of a machine, the same ones for the same seed."""
    flat = iter(parts(1000 * seed + 10 * size + len(signs), 2 * size + len(signs) * size * size))
    begins, ends = [next(flat) for _ in range(size)], [next(flat) for _ in range(size)]
    moves = [[[next(flat) for _ in range(size)] for _ in range(size)] for _ in signs]
    return (signs, begins, moves, ends)


def machine_of(plan):
    return Machine(*copied(plan))


def random_machine(size, signs, seed, parts=small_parts):
    return machine_of(plan_of(size, signs, seed, parts))


def plan_in(machine):
    """What a machine that was told has in its fields."""
    return copied((machine.signs, machine.begins, machine.moves, machine.ends))


def words_of(signs, most, least=0):
    """All words of no more than so many signs, the shorter ones first."""
    return ["".join(word) for many in range(least, most + 1) for word in product(signs, repeat=many)]


def row_by_ways(plan, word):
    """What all ways of the word are worth without the end, by last rooms, as fractions."""
    signs, begins, moves, _ = plan
    sums = [Fraction(0)] * len(begins)
    for way in product(range(len(begins)), repeat=len(word) + 1):
        worth = fraction(begins[way[0]])
        for sign, here, there in zip(word, way, way[1:]):
            worth = worth * fraction(moves[signs.index(sign)][here][there])
        sums[way[-1]] += worth
    return sums


def row_by_steps(plan, word):
    """The row of the word, as fractions."""
    signs, begins, moves, _ = plan
    row = [fraction(part) for part in begins]
    for sign in word:
        table = moves[signs.index(sign)]
        row = [sum((worth * fraction(table[here][there]) for here, worth in enumerate(row) if worth), Fraction(0))
               for there in range(len(row))]
    return row


def ended(plan, row):
    return sum((worth * fraction(end) for worth, end in zip(row, plan[3])), Fraction(0))


def weight_by_ways(plan, word):
    return ended(plan, row_by_ways(plan, word))


def weight_by_steps(plan, word):
    return ended(plan, row_by_steps(plan, word))


class Hanging:
    """What hangs on some rows of fractions, by clearing from the last place to the first."""

    def __init__(self, rows):
        self.kept = []
        self.free = all([self.keeps(row) for row in rows])

    def left(self, row):
        for at, lead in self.kept:
            if row[at] != 0:
                row = [mine - row[at] * its for mine, its in zip(row, lead)]
        return row

    def holds(self, row):
        return not any(self.left(row))

    def keeps(self, row):
        left = self.left(row)
        at = next((place for place in reversed(range(len(left))) if left[place] != 0), None)
        if at is not None:
            self.kept.append((at, [worth / left[at] for worth in left]))
        return at is not None


def free_words(plan):
    """Words whose rows are free and on which those of all words hang, as the plan's signs are tried in turn."""
    hanging, found, asked = Hanging([]), [], [""]
    for word in asked:
        if hanging.keeps(row_by_steps(plan, word)):
            found.append(word)
            asked.extend(word + sign for sign in plan[0])
    return found


def assert_row(test, row, worths):
    """The row is a list of just the shares of the worths."""
    test.assertIs(type(row), list)
    test.assertEqual(len(row), len(worths))
    for part, worth in zip(row, worths):
        assert_share(test, part, worth)


def assert_machine(test, machine, signs, size):
    """The thing is a machine as told, with fields of plain lists and shares."""
    test.assertIs(type(machine), Machine)
    test.assertIs(type(machine.signs), str)
    test.assertEqual(machine.signs, signs)
    test.assertEqual((type(machine.begins), type(machine.moves), type(machine.ends)), (list, list, list))
    test.assertEqual((len(machine.begins), len(machine.ends), len(machine.moves)), (size, size, len(signs)))
    rows = [machine.begins, machine.ends]
    for table in machine.moves:
        test.assertIs(type(table), list)
        test.assertEqual(len(table), size)
        rows.extend(table)
    for row in rows:
        test.assertIs(type(row), list)
        test.assertEqual(len(row), size)
        test.assertTrue(all(is_share(part) for part in row))


def in_other_order(plan, seed):
    """The plan with its rooms in another order."""
    signs, begins, moves, ends = plan
    order = list(range(len(begins)))
    Random(seed).shuffle(order)
    return (signs, [begins[at] for at in order], [[[table[here][there] for there in order] for here in order]
                                                  for table in moves], [ends[at] for at in order])


def with_more_rooms(plan, many, seed, parts=small_parts):
    """The plan with so many more rooms, into the first half of which nothing leads, and out of the others."""
    signs, begins, moves, ends = copied(plan)
    flat = iter(parts(seed, 2 * many + 2 * len(signs) * many * (len(begins) + many)))
    shut = [at < (many + 1) // 2 for at in range(many)]
    nought = (0, 1)
    for table in moves:
        for row in table:
            row.extend([nought if closed else next(flat) for closed in shut])
        for closed in shut:
            ahead = [next(flat) if closed else nought for _ in begins]
            table.append(ahead + [next(flat) if closed or not behind else nought for behind in shut])
    begins.extend([nought if closed else next(flat) for closed in shut])
    ends.extend([next(flat) if closed else nought for closed in shut])
    return (signs, begins, moves, ends)


def with_rows_mixed(plan, seed):
    """The plan in other rooms: again and again one room is taken, a few times, into another one."""
    signs, begins, moves, ends = copied(plan)
    chance = Random(seed)
    for _ in range(2 * len(begins)):
        here, there = chance.sample(range(len(begins)), 2)
        many = Fraction(chance.randint(-3, 3), chance.randint(1, 3))
        for row in [begins] + [row for table in moves for row in table]:
            row[there] = part_of(fraction(row[there]) + many * fraction(row[here]))
        for table in moves:
            table[here] = [part_of(fraction(part) - many * fraction(its))
                           for part, its in zip(table[here], table[there])]
        ends[here] = part_of(fraction(ends[here]) - many * fraction(ends[there]))
    return (signs, begins, moves, ends)


def turned_plan(plan):
    signs, begins, moves, ends = plan
    return (signs, ends, [[list(column) for column in zip(*table)] for table in moves], begins)


def both_plans(one, other):
    """The rooms of both plans, with ends such that each word weighs by how much it differs."""
    noughts, its = [(0, 1)] * len(one[1]), [(0, 1)] * len(other[1])
    moves = [[row + its for row in table] + [noughts + row for row in tables]
             for table, tables in zip(one[2], other[2])]
    return (one[0], one[1] + other[1], moves, one[3] + [(-top, bottom) for top, bottom in other[3]])


def chain_plan(signs, tops):
    """A plan whose words weigh nought but those of as many signs as there are tops less two."""
    begin, *steps, end = tops
    size = len(steps) + 1
    nought = (0, 1)
    moves = [[[steps[here] if there == here + 1 else nought for there in range(size)] for here in range(size)]
             for _ in signs]
    return (signs, [begin] + [nought] * (size - 1), moves, [nought] * (size - 1) + [end])
