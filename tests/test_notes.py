"""Point 3."""

import unittest
from fractions import Fraction

from tests.things import BIG, BIGS, assert_refused, big_parts, other_things, part_of
from weighwords.errors import NoText
from weighwords.notes import read, written

NOTED = [((3, 4), "3/4"), ((-2, 1), "-2"), ((0, 1), "0"), ((1, 1), "1"), ((-1, 1), "-1"), ((-3, 4), "-3/4"),
         ((10, 1), "10"), ((1, 10), "1/10"), ((-100, 7), "-100/7"), ((1234567890, 11), "1234567890/11"),
         ((BIG, 1), "9" * 60), ((-BIG, 1), "-" + "9" * 60), ((1, BIG), "1/" + "9" * 60),
         ((10 ** 59, 1), "1" + "0" * 59), ((-(10 ** 59), 3), "-1" + "0" * 59 + "/3"),
         ((10 ** 59 + 1, 10 ** 59), "1" + "0" * 58 + "1/1" + "0" * 59)]


class WrittenTest(unittest.TestCase):
    def test_written_out(self):
        for part, text in NOTED:
            with self.subTest(text=text):
                self.assertEqual(written(part), text)
                self.assertIs(type(written(part)), str)

    def test_more_than_sixty_figures(self):
        for figures in [61, 119, 120, 121, 180, 4300, 4301, 9000]:
            self.assertEqual(written((10 ** (figures - 1), 1)), "1" + "0" * (figures - 1))
            self.assertEqual(written((-(10 ** figures - 1), 1)), "-" + "9" * figures)
            self.assertEqual(written((2, 10 ** figures - 1)), "2/" + "9" * figures)
            sevens = 10 ** (figures - 1) + 7
            self.assertEqual(written((-sevens, 10 ** figures)), "-1" + "0" * (figures - 2) + "7/1" + "0" * figures)

    def test_noughts_between_the_figures(self):
        for number in [7 * 10 ** 60, 7 * 10 ** 60 + 5, 10 ** 120 + 10 ** 60, 10 ** 120 + 1, 3 * 10 ** 119]:
            self.assertEqual(written((number, 1)), str(number))
            self.assertEqual(written((-number, 1)), str(-number))


class ReadTest(unittest.TestCase):
    def assert_no_text(self, thing):
        assert_refused(self, NoText, read, thing)

    def assert_none_of(self, texts):
        for text in texts:
            with self.subTest(text=text):
                self.assert_no_text(text)

    def test_written_out(self):
        for part, text in NOTED:
            with self.subTest(text=text):
                self.assertEqual(read(text), part)
                self.assertEqual([type(number) for number in read(text)], [int, int])
                self.assertIs(type(read(text)), tuple)

    def test_what_is_written_is_read_to_the_same(self):
        parts = [part_of(Fraction(top, bottom)) for top in range(-30, 31) for bottom in range(1, 31)]
        parts += big_parts(5, 100) + [part_of(Fraction(one, other)) for one in BIGS for other in BIGS]
        for part in parts:
            self.assertEqual(read(written(part)), part)

    def test_noughts_ahead(self):
        self.assert_none_of(["00", "01", "007", "-01", "01/2", "-01/2", "1/02", "0/1", "00/1", "-00", "1/0002",
                             "0" * 60, "0" * 59 + "1", "0" * 61])

    def test_signs(self):
        self.assert_none_of(["-0", "-0/1", "-0/5", "+0", "+1", "+1/2", "--1", "-+1", "+-1", "1-", "1/-2", "-1/-2",
                             "1/+2", "1/--2", "1/2-", "-", "+", "--", "1-2", "-/2", "3/-4"])

    def test_blanks_and_line_ends(self):
        for text in ["0", "12", "-2", "3/4", "-3/4"]:
            for blank in [" ", "\t", "\n", "\r", "\r\n", "\v", "\f", "\x00", "\u00a0", "\u2003", "\u200b", "\ufeff"]:
                texts = [blank + text, text + blank, blank]
                texts += [text[:at] + blank + text[at:] for at in range(1, len(text))]
                self.assert_none_of(texts)

    def test_other_signs_among_the_figures(self):
        self.assert_none_of(["1_000", "1_0/3", "_1", "1_", "1/1_0", "1,000", "1.0", "0.5", ".5", "1e3", "0x1", "0b1",
                             "1/2/3", "1//2", "//", "a", "a/b", "1a", "inf", "nan", "(1, 2)", "3\\4", "3:4", "1/2a",
                             "'1'", "\ud800", "1\ud800", "\u2212" + "1", "3\u20444"])

    def test_bottoms_of_one_or_nought(self):
        self.assert_none_of(["1/1", "0/1", "-1/1", "7/1", "1/0", "0/0", "-1/0", "1/00", "1/01", "1/-1", "1/-0"])

    def test_a_common_divisor(self):
        self.assert_none_of(["2/4", "-2/4", "6/3", "2/2", "0/2", "0/7", "15/35", "-9/6", "9" * 60 + "/3",
                             "9" * 60 + "/" + "9" * 60])

    def test_nothing_or_half(self):
        self.assert_none_of(["", "/", "-", "/2", "1/", "-/", "-1/", "/-", "//2", "1//"])

    def test_more_than_sixty_figures(self):
        over_sixty = "1" + "0" * 60
        self.assert_none_of([over_sixty, "-" + over_sixty, over_sixty + "/7", "-" + over_sixty + "/7",
                             "1/" + over_sixty, "-7/" + over_sixty, "9" * 61, "1" * 61, "1/" + "1" * 61,
                             "9" * 61 + "/" + "7" * 61])
        for figures in [100, 4300, 4301, 100000]:
            for text in ["1" * figures, "-" + "1" * figures, "2/" + "1" * figures, "1" * figures + "/2"]:
                self.assert_no_text(text)

    def test_figures_of_other_scripts(self):
        others = ["\u0663", "\u0966", "\uff11", "\u00b2", "\u00bd", "\u2460", "\u4e09", "\U0001d7d9", "\u06f1"]
        for other in others:
            self.assert_none_of([other, "1" + other, other + "1", "-" + other, other + "/7", "1/" + other,
                                 "1/7" + other])

    def test_what_is_no_text(self):
        for thing in other_things() + [(1, 2), (0, 1), [], ["1"], ["1", "/", "2"], ("1",), b"3/4"]:
            self.assert_no_text(thing)


if __name__ == "__main__":
    unittest.main()
