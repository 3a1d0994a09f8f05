"""Point 2, and point 1 as to whole numbers."""

import unittest
from fractions import Fraction

from tests.things import (BIG, BIGS, assert_refused, assert_share, big_parts, fraction, other_things, part_of,
                          small_parts)
from weighwords.errors import Nought
from weighwords.shares import is_share, less, over, plus, share, times


class IsShareTest(unittest.TestCase):
    def assert_told(self, thing, told):
        self.assertIs(is_share(thing), told)

    def test_pairs_without_a_common_divisor_are_shares(self):
        for pair in [(0, 1), (1, 1), (-1, 1), (3, 4), (-3, 4), (4, 3), (1, 2), (-2, 1), (7, 1), (1, 9)]:
            with self.subTest(pair=pair):
                self.assert_told(pair, True)

    def test_each_small_pair(self):
        for top in range(-12, 13):
            for bottom in range(-12, 13):
                lowest = bottom > 0 and (Fraction(top, bottom).numerator, Fraction(top, bottom).denominator)
                with self.subTest(pair=(top, bottom)):
                    self.assert_told((top, bottom), lowest == (top, bottom))

    def test_a_common_divisor(self):
        for pair in [(2, 4), (-2, 4), (6, 3), (2, 2), (-9, 9), (0, 2), (0, 7), (2 * BIG, 2), (BIG, BIG), (3, BIG)]:
            with self.subTest(pair=pair):
                self.assert_told(pair, False)

    def test_a_bottom_of_nought_or_below(self):
        for pair in [(0, 0), (1, 0), (-1, 0), (1, -1), (0, -1), (1, -2), (-3, -4), (BIG, -1)]:
            with self.subTest(pair=pair):
                self.assert_told(pair, False)

    def test_true_and_false_are_no_numbers(self):
        for pair in [(True, 1), (False, 1), (1, True), (0, True), (True, True), (True, 2), (1, False), (3, True)]:
            with self.subTest(pair=pair):
                self.assert_told(pair, False)

    def test_sixty_figures_and_more(self):
        for pair in [(BIG, 1), (-BIG, 1), (1, BIG), (BIG, BIG - 1), (-BIG, BIG - 1), (10 ** 59, 7 ** 70),
                     (10 ** 60, 1), (1, 10 ** 60), (10 ** 400, 10 ** 400 + 1), (10 ** 5000, 3 ** 9000)]:
            self.assert_told(pair, True)

    def test_shorter_and_longer_tuples(self):
        for thing in [(), (1,), (0,), (1, 1, 1), (1, 2, 3), (1, 2, 3, 4), ((1, 2),), ((1, 2), 1), ((1, 2), (1, 2))]:
            with self.subTest(thing=thing):
                self.assert_told(thing, False)

    def test_pairs_of_other_things(self):
        for thing in other_things() + ["1", "", [1], (1,)]:
            if type(thing) is not int:
                self.assert_told((thing, 1), False)
                self.assert_told((1, thing), False)
                self.assert_told((thing, thing), False)

    def test_other_things(self):
        for thing in other_things() + ["", "1/2", "12", "ab", [], [1, 2], [0, 1], [[1, 2]]]:
            self.assert_told(thing, False)

    def test_a_list_is_not_changed(self):
        thing = [1, 2]
        is_share(thing)
        self.assertEqual(thing, [1, 2])


class ShareTest(unittest.TestCase):
    def test_small_numbers(self):
        for top in range(-15, 16):
            for bottom in list(range(-15, 0)) + list(range(1, 16)):
                with self.subTest(top=top, bottom=bottom):
                    assert_share(self, share(top, bottom), Fraction(top, bottom))

    def test_written_out(self):
        self.assertEqual(share(3, 4), (3, 4))
        self.assertEqual(share(6, 8), (3, 4))
        self.assertEqual(share(6, -8), (-3, 4))
        self.assertEqual(share(-6, -8), (3, 4))
        self.assertEqual(share(-6, 8), (-3, 4))
        self.assertEqual(share(0, -5), (0, 1))
        self.assertEqual(share(8, -4), (-2, 1))

    def test_sixty_figures(self):
        for top in BIGS:
            for bottom in BIGS:
                for top_sign, bottom_sign in [(1, 1), (1, -1), (-1, 1), (-1, -1)]:
                    got = share(top_sign * top, bottom_sign * bottom)
                    assert_share(self, got, Fraction(top_sign * top, bottom_sign * bottom))
                    self.assertTrue(is_share(got))

    def test_nought_is_one_share_alone(self):
        for bottom in [1, -1, 2, -2, 60, BIG, -BIG]:
            self.assertEqual(share(0, bottom), (0, 1))

    def test_the_same_fraction_is_one_share_alone(self):
        for top, bottom in [(3, 4), (-3, 4), (0, 1), (5, 1), (1, 7), (BIG, 2 ** 199)]:
            for often in [1, -1, 2, -2, 3, 12, -35, 10 ** 30, -BIG]:
                self.assertEqual(share(top * often, bottom * often), (top, bottom))

    def test_a_bottom_of_nought(self):
        for top in [0, 1, -1, 7, BIG, -BIG]:
            assert_refused(self, Nought, share, top, 0)


class ReckoningTest(unittest.TestCase):
    def assert_all_four(self, one, other):
        worth, its = fraction(one), fraction(other)
        assert_share(self, plus(one, other), worth + its)
        assert_share(self, less(one, other), worth - its)
        assert_share(self, times(one, other), worth * its)
        if its != 0:
            assert_share(self, over(one, other), worth / its)
        else:
            assert_refused(self, Nought, over, one, other)

    def test_small_numbers(self):
        parts = sorted({part_of(Fraction(top, bottom)) for top in range(-4, 5) for bottom in range(1, 5)})
        for one in parts:
            for other in parts:
                with self.subTest(one=one, other=other):
                    self.assert_all_four(one, other)

    def test_written_out(self):
        self.assertEqual(plus((1, 2), (1, 3)), (5, 6))
        self.assertEqual(plus((1, 2), (1, 2)), (1, 1))
        self.assertEqual(less((1, 2), (1, 3)), (1, 6))
        self.assertEqual(less((1, 3), (1, 2)), (-1, 6))
        self.assertEqual(less((1, 3), (1, 3)), (0, 1))
        self.assertEqual(times((2, 3), (3, 4)), (1, 2))
        self.assertEqual(times((0, 1), (3, 4)), (0, 1))
        self.assertEqual(over((1, 2), (3, 4)), (2, 3))
        self.assertEqual(over((1, 2), (-3, 4)), (-2, 3))
        self.assertEqual(over((0, 1), (-3, 4)), (0, 1))

    def test_sixty_figures(self):
        parts = big_parts(2, 12) + small_parts(3, 4) + [(BIG, 1), (-BIG, 1), (1, BIG), (-1, BIG), (0, 1)]
        for one in parts:
            for other in parts:
                self.assert_all_four(one, other)

    def test_what_was_told_may_be_handed_in(self):
        one, worth = (1, 1), Fraction(1)
        for part in big_parts(4, 40):
            one, worth = plus(times(one, part), (1, 3)), worth * fraction(part) + Fraction(1, 3)
        assert_share(self, one, worth)
        self.assertGreater(one[1], 10 ** 1000)
        self.assert_all_four(one, less((1, 1), one))

    def test_over_nought(self):
        for one in [(0, 1), (1, 1), (-3, 4), (BIG, 1), (1, BIG)]:
            assert_refused(self, Nought, over, one, (0, 1))


if __name__ == "__main__":
    unittest.main()
