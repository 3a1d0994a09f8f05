"""Points 4 and 5, and point 1 as to rows handed in and lists told."""

import unittest
from fractions import Fraction
from itertools import product
from random import Random

from tests.things import BIG, assert_refused, big_parts, fraction, other_things, part_of, small_parts
from weighwords.errors import NoRow
from weighwords.shares import is_share
from weighwords.spans import Span

NOUGHT = (0, 1)


def row(*worths):
    return [part_of(worth) for worth in worths]


def noughts(size):
    return [NOUGHT] * size


def unit(size, place):
    return [(1, 1) if at == place else NOUGHT for at in range(size)]


def summed(rows, parts, size):
    """The rows, each taken so many times as its share tells, summed by fractions."""
    return [part_of(sum((fraction(part) * fraction(one[place]) for one, part in zip(rows, parts)), Fraction(0)))
            for place in range(size)]


def rank(rows):
    """How many of the rows are free, by fractions and from the last place to the first."""
    left = [[fraction(part) for part in reversed(one)] for one in rows]
    free = 0
    while left:
        lead = left.pop()
        at = next((place for place, worth in enumerate(lead) if worth != 0), None)
        if at is not None:
            free += 1
            left = [[mine - its * one[at] / lead[at] for mine, its in zip(one, lead)] for one in left]
    return free


class Watched:
    """A span that is held, at each step, against ranks and sums reckoned here."""

    def __init__(self, test, size):
        self.test, self.size, self.span, self.kept = test, size, Span(size), []

    def put(self, one):
        hangs = rank(self.kept + [one]) == len(self.kept)
        self.hold_tells(one, hangs)
        handed = list(one)
        self.test.assertIs(self.span.put(handed), not hangs)
        self.test.assertEqual(handed, one)
        if not hangs:
            self.kept.append(one)
        self.test.assertEqual(self.span.many(), len(self.kept))
        self.hold_tells(one, True)

    def hold_tells(self, one, hangs):
        handed = list(one)
        told = self.span.tells(handed)
        self.test.assertEqual(handed, one)
        if not hangs:
            self.test.assertIsNone(told)
            return
        self.test.assertIs(type(told), list)
        self.test.assertEqual(len(told), len(self.kept))
        self.test.assertTrue(all(is_share(part) for part in told))
        self.test.assertEqual(summed(self.kept, told, self.size), one)


class SpanTest(unittest.TestCase):
    def test_written_out(self):
        span = Span(3)
        self.assertEqual(span.many(), 0)
        self.assertIs(span.put(row(1, 2, 0)), True)
        self.assertIs(span.put(row(2, 4, 0)), False)
        self.assertIsNone(span.tells(row(0, 1, 1)))
        self.assertIs(span.put(row(0, Fraction(1, 2), Fraction(1, 2))), True)
        self.assertEqual(span.many(), 2)
        self.assertEqual(span.tells(row(3, 7, 1)), [(3, 1), (2, 1)])
        self.assertEqual(span.tells(row(Fraction(1, 3), 0, Fraction(-2, 3))), [(1, 3), (-4, 3)])
        self.assertEqual(span.tells(row(1, 2, 0)), [(1, 1), (0, 1)])
        self.assertEqual(span.tells(noughts(3)), [(0, 1), (0, 1)])
        self.assertIsNone(span.tells(row(0, 0, 1)))
        self.assertIs(span.put(row(0, 0, 1)), True)
        self.assertEqual(span.tells(row(0, 1, 0)), [(0, 1), (2, 1), (-1, 1)])
        self.assertIs(span.put(row(5, 6, 7)), False)
        self.assertEqual(span.many(), 3)

    def test_a_row_of_noughts_hangs_on_none_at_all(self):
        for size in range(25):
            span = Span(size)
            self.assertEqual(span.tells(noughts(size)), [])
            self.assertIs(span.put(noughts(size)), False)
            self.assertEqual(span.many(), 0)

    def test_no_places(self):
        span = Span(0)
        self.assertEqual(span.many(), 0)
        self.assertEqual(span.tells([]), [])
        self.assertIs(span.put([]), False)
        self.assertEqual(span.tells([]), [])
        self.assertEqual(span.many(), 0)
        assert_refused(self, NoRow, span.put, [NOUGHT])
        assert_refused(self, NoRow, span.tells, [NOUGHT])

    def test_one_place(self):
        span = Span(1)
        self.assertIsNone(span.tells([(1, BIG)]))
        self.assertIs(span.put([(-2, 3)]), True)
        self.assertIs(span.put([(1, 1)]), False)
        self.assertEqual(span.tells([(5, 7)]), [(-15, 14)])
        self.assertEqual(span.many(), 1)

    def test_units_from_behind(self):
        for size in range(25):
            span = Span(size)
            for place in reversed(range(size)):
                self.assertIsNone(span.tells(unit(size, place)))
                self.assertIs(span.put(unit(size, place)), True)
            self.assertEqual(span.many(), size)
            parts = small_parts(size, size)
            self.assertEqual(span.tells(parts), parts[::-1])

    def test_each_order_of_small_rows(self):
        small = [row(*worths) for worths in product([0, 1, -2], repeat=2)]
        for first, second, third in product(small, repeat=3):
            watched = Watched(self, 2)
            for one in (first, second, third):
                watched.put(one)

    def test_rows_of_many_noughts(self):
        chance = Random(11)
        for size in range(1, 8):
            for _ in range(30):
                watched = Watched(self, size)
                for _ in range(size + 2):
                    watched.put(row(*[chance.choice([0, 0, 0, 1, -1, Fraction(2, 3)]) for _ in range(size)]))

    def test_sums_of_those_kept_hang_on_them(self):
        chance = Random(12)
        for size in [2, 3, 5, 8, 12]:
            watched = Watched(self, size)
            for step in range(2 * size):
                parts = small_parts(100 * size + step, len(watched.kept))
                watched.put(summed(watched.kept, parts, size))
                if chance.randrange(2):
                    watched.put(small_parts(200 * size + step, size))

    def test_a_share_of_each_row_once_more(self):
        watched = Watched(self, 6)
        for step in range(6):
            one = small_parts(30 + step, 6, 3)
            watched.put(one)
            watched.put(summed([one], [(-7, 5)], 6))

    def test_each_size(self):
        for size in range(25):
            span = Span(size)
            rows = [small_parts(1000 + 50 * size + place, size) for place in range(size)]
            self.assertEqual([span.put(one) for one in rows], [True] * size)
            self.assertEqual(span.many(), size)
            for seed in range(3):
                parts = small_parts(seed, size, 20)
                self.assertEqual(span.tells(summed(rows, parts, size)), parts)
                other = small_parts(seed + 10, size)
                self.assertEqual(summed(rows, span.tells(other), size), other)
                self.assertIs(span.put(other), False)
            self.assertEqual(span.many(), size)

    def test_half_of_twenty_four(self):
        span = Span(24)
        rows = [small_parts(500 + step, 24) for step in range(12)]
        for one in rows:
            self.assertIs(span.put(one), True)
            self.assertIs(span.put(one), False)
        parts = small_parts(600, 12)
        self.assertEqual(span.tells(summed(rows, parts, 24)), parts)
        near = summed(rows, parts, 24)
        near[23] = part_of(fraction(near[23]) + 1)
        self.assertIsNone(span.tells(near))
        self.assertIs(span.put(near), True)
        self.assertEqual(span.tells(near), noughts(12) + [(1, 1)])
        self.assertEqual(span.many(), 13)

    def test_shares_of_sixty_figures(self):
        for size in [1, 2, 4, 6]:
            span = Span(size)
            rows = [big_parts(700 + 10 * size + step, size) for step in range(size)]
            self.assertEqual([span.put(one) for one in rows], [True] * size)
            parts = big_parts(800 + size, size)
            self.assertEqual(span.tells(summed(rows, parts, size)), parts)
            other = big_parts(900 + size, size)
            told = span.tells(other)
            self.assertEqual(summed(rows, told, size), other)
            # What was told, with more figures than sixty, is handed in again.
            self.assertEqual(summed(rows, span.tells(told), size), told)

    def test_rows_that_differ_by_next_to_nothing(self):
        span = Span(2)
        self.assertIs(span.put([(1, 1), (1, 1)]), True)
        near = [(BIG, BIG - 1), (1, 1)]
        self.assertIsNone(span.tells(near))
        self.assertIs(span.put(near), True)
        self.assertEqual(span.tells([(1, 1), NOUGHT]), [(1 - BIG, 1), (BIG - 1, 1)])

    def test_more_than_twenty_four_places(self):
        span = Span(30)
        for place in range(30):
            self.assertIs(span.put(unit(30, place)), True)
        self.assertEqual(span.tells(noughts(29) + [(2, 1)]), noughts(29) + [(2, 1)])


class RefusalTest(unittest.TestCase):
    def wrong_rows(self, size):
        good = small_parts(40, size)
        wrong = other_things() + ["", "ab", (), tuple(good), dict(enumerate(good)), iter(good), good + [(1, 1)],
                                  good + [None], good[:-1], [good], [], good * 2, "1" * size]
        parts = other_things() + ["1/2", "", [1, 2], (), (1,), (1, 1, 1), (2, 4), (1, 0), (1, -2), (0, 2), (True, 1),
                                  (1, True), (0, False), (1.0, 1), ("1", "2"), ((1, 2), 1)]
        for part in parts:
            for place in range(size):
                wrong.append(good[:place] + [part] + good[place + 1:])
        return wrong

    def test_wrong_rows_are_refused_and_change_nothing(self):
        for many in range(4):
            span = Span(3)
            rows = [row(1, 2, 3), row(0, 0, 1), row(0, 5, 1)][:many]
            for one in rows:
                span.put(one)
            for thing in self.wrong_rows(3):
                for asked in (span.put, span.tells):
                    assert_refused(self, NoRow, asked, thing)
                self.assertEqual(span.many(), many)
            for place, one in enumerate(rows):
                self.assertEqual(span.tells(one), unit(many, place))
                self.assertIs(span.put(one), False)
            self.assertIs(span.put(row(1, 1, 1)), many < 3)

    def test_wrong_rows_of_no_places(self):
        span = Span(0)
        for thing in other_things() + ["", (), [[]], [None], [(0, 1)], [0]]:
            assert_refused(self, NoRow, span.put, thing)
            assert_refused(self, NoRow, span.tells, thing)
        self.assertEqual(span.many(), 0)

    def test_each_other_length(self):
        for size in range(8):
            span = Span(size)
            for length in range(25):
                if length != size:
                    assert_refused(self, NoRow, span.put, noughts(length))
                    assert_refused(self, NoRow, span.tells, unit(length, 0))
            self.assertEqual(span.many(), 0)

    def test_a_refused_row_is_not_changed(self):
        span = Span(2)
        wrong = [(1, 1), (2, 2)]
        assert_refused(self, NoRow, span.put, wrong)
        assert_refused(self, NoRow, span.tells, wrong)
        self.assertEqual(wrong, [(1, 1), (2, 2)])


class OwnTest(unittest.TestCase):
    """Nothing handed in is changed or kept; what is told is the asker's own."""

    def test_rows_changed_after_the_call(self):
        span = Span(2)
        one, other = row(1, 2), row(0, 3)
        span.put(one)
        one[0] = (9, 1)
        one.append((1, 1))
        span.put(other)
        other.clear()
        self.assertEqual(span.tells(row(1, 2)), row(1, 0))
        self.assertEqual(span.tells(row(0, 3)), row(0, 1))
        self.assertEqual(span.many(), 2)

    def test_a_row_that_was_not_kept_and_changes(self):
        span = Span(2)
        span.put(row(1, 2))
        one = row(2, 4)
        self.assertIs(span.put(one), False)
        one[1] = (5, 1)
        self.assertEqual(span.tells(row(2, 4)), row(2))
        self.assertIsNone(span.tells(row(2, 5)))

    def test_lists_told_and_changed_by_the_asker(self):
        span = Span(2)
        span.put(row(1, 2))
        span.put(row(0, 3))
        told = span.tells(row(2, 7))
        self.assertEqual(told, row(2, 1))
        told[0] = (9, 1)
        told.append((4, 1))
        self.assertEqual(span.tells(row(2, 7)), row(2, 1))
        span.tells(row(0, 0)).clear()
        self.assertEqual(span.tells(row(0, 0)), row(0, 0))
        self.assertEqual(span.many(), 2)

    def test_nothing_done_later_changes_what_was_told(self):
        span = Span(3)
        empty = span.tells(noughts(3))
        span.put(row(1, 2, 0))
        told = span.tells(row(2, 4, 0))
        span.put(row(0, 3, 0))
        span.tells(row(3, 3, 0))
        span.put(row(0, 0, 1))
        self.assertEqual(told, row(2))
        self.assertEqual(empty, [])
        self.assertIsNot(span.tells(row(2, 4, 0)), span.tells(row(2, 4, 0)))

    def test_tells_keeps_nothing(self):
        span = Span(2)
        self.assertIsNone(span.tells(row(1, 0)))
        self.assertIsNone(span.tells(row(1, 0)))
        self.assertEqual(span.many(), 0)
        self.assertIs(span.put(row(1, 0)), True)

    def test_two_spans_side_by_side(self):
        one, other = Span(2), Span(2)
        self.assertIs(one.put(row(1, 0)), True)
        self.assertEqual(other.many(), 0)
        self.assertIsNone(other.tells(row(1, 0)))
        self.assertIs(other.put(row(1, 1)), True)
        self.assertIs(other.put(row(1, 0)), True)
        self.assertEqual((one.many(), other.many()), (1, 2))
        self.assertEqual(one.tells(row(3, 0)), row(3))
        self.assertEqual(other.tells(row(3, 0)), row(0, 3))
        self.assertIsNone(one.tells(row(1, 1)))

    def test_two_spans_of_two_sizes(self):
        one, other = Span(1), Span(3)
        other.put(row(0, 1, 0))
        one.put(row(4))
        self.assertEqual(one.tells(row(2)), row(Fraction(1, 2)))
        self.assertEqual(other.tells(row(0, 2, 0)), row(2))
        assert_refused(self, NoRow, one.put, row(0, 1, 0))
        assert_refused(self, NoRow, other.put, row(4))
        self.assertEqual((one.many(), other.many()), (1, 1))


if __name__ == "__main__":
    unittest.main()
