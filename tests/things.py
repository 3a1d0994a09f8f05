"""What several tests need: shares reckoned by fractions, and things that are none of ours."""

from fractions import Fraction
from random import Random

from weighwords.errors import NoMachine, NoRow, NoText, NoWord, Nought, OtherSigns, TooMany, WeighError

KINDS = [Nought, NoText, NoRow, NoMachine, NoWord, OtherSigns, TooMany]

# The greatest number of sixty figures, and some others of as many.
BIG = 10 ** 60 - 1
BIGS = [BIG, 10 ** 59, 10 ** 59 + 1, 2 ** 199, 3 ** 125, 7 ** 70, 123456789 * 10 ** 51 + 1]


class Hostile:
    """Raises at whatever it is asked."""

    def __bool__(self):
        raise RuntimeError("asked for its truth")

    def __eq__(self, other):
        raise RuntimeError("compared")

    def __len__(self):
        raise RuntimeError("measured")

    def __iter__(self):
        raise RuntimeError("gone over")

    def __repr__(self):
        raise RuntimeError("shown")

    __hash__ = None


def other_things():
    """Things that are neither a share, nor a text, nor a list."""
    return [None, True, False, 0, 1, -1, BIG, 10 ** 5000, 0.5, 1.0, float("nan"), 1j, b"1/2", b"", bytearray(b"1"),
            {}, {0: 1, 1: 2}, {1, 2}, frozenset((1, 2)), range(2), Fraction(1, 2), object(), int, tuple, len,
            iter([1, 2]), (part for part in (1, 2)), slice(1, 2), Ellipsis, NotImplemented, ValueError("x"),
            Hostile()]


def fraction(part):
    return Fraction(part[0], part[1])


def part_of(worth):
    """The share of a Fraction or an int."""
    worth = Fraction(worth)
    return (worth.numerator, worth.denominator)


def small_parts(seed, many, most=9):
    """So many shares of small numbers, the same ones for the same seed."""
    chance = Random(seed)
    return [part_of(Fraction(chance.randint(-most, most), chance.randint(1, most))) for _ in range(many)]


def big_parts(seed, many):
    """So many shares of up to sixty figures in top and in bottom."""
    chance = Random(seed)
    return [part_of(Fraction(chance.randint(-BIG, BIG), chance.randint(1, BIG))) for _ in range(many)]


def assert_share(test, part, worth):
    """The part is just the share of the worth, of plain ints."""
    test.assertIs(type(part), tuple)
    test.assertEqual([type(number) for number in part], [int, int])
    worth = Fraction(worth)
    test.assertEqual(part, (worth.numerator, worth.denominator))


def assert_refused(test, kind, function, *handed):
    """The call is refused by just this kind, which is a WeighError and a ValueError."""
    for caught in (kind, WeighError, ValueError):
        with test.assertRaises(caught) as held:
            function(*handed)
        test.assertIs(type(held.exception), kind)
    for other in KINDS:
        if other is not kind:
            test.assertNotIsInstance(held.exception, other)
