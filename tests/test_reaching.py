"""Points 10 and 11 with numbers that are unlucky for the search by rests: nothing is told that is not so."""

import unittest
from fractions import Fraction
from math import gcd

from tests import test_comparing, test_making
from tests.things import (copied, fraction, in_other_order, machine_of, part_of, plan_of, rare_parts, small_parts,
                          with_rows_mixed)
from weighwords.making import grounds, small
from weighwords.reaching import Moduli, Rests, reached

NOUGHT, ONE = (0, 1), (1, 1)

moduli = Moduli()

# The first moduli of the search, and the first one as a product.
FIRST, SECOND, THIRD, FOURTH = [moduli.another() for _ in range(4)]
FACTOR = 2424833
OTHER_FACTOR = FIRST // FACTOR

UNLUCKY = [FIRST, FIRST * FIRST, FIRST * SECOND, FIRST * SECOND * THIRD, SECOND * FOURTH, FACTOR, OTHER_FACTOR,
           3 * FACTOR, SECOND, FIRST - 1, FIRST + 1, 2 ** 240, 2 ** 240 + 1, 2 ** 512, 2 ** 1400 + 3]


def unlucky_parts():
    return [part for number in UNLUCKY for part in ((number, 1), (-number, 1), (1, number), (number + 1, number),
                                                    (5 - number, 1), (2 * number + 1, number - 1))]


def with_room_scaled(plan, at, part):
    """The plan in other rooms: the places of one in all rows are taken so many times."""
    signs, begins, moves, ends = copied(plan)
    begins[at] = part_of(fraction(begins[at]) * fraction(part))
    ends[at] = part_of(fraction(ends[at]) / fraction(part))
    for table in moves:
        for row in table:
            row[at] = part_of(fraction(row[at]) * fraction(part))
        table[at] = [part_of(fraction(its) / fraction(part)) for its in table[at]]
    return (signs, begins, moves, ends)


class ComparingTest(test_comparing.Asked):
    def test_the_factors(self):
        self.assertEqual(FACTOR * OTHER_FACTOR, FIRST)
        self.assertEqual(FIRST, 2 ** 512 + 1)

    def test_one_number(self):
        for top, bottom in unlucky_parts():
            part = part_of(Fraction(top, bottom))
            for plan in [("a", [part], [[[ONE]]], [ONE]), ("a", [ONE], [[[part]]], [ONE]),
                         ("a", [ONE], [[[ONE]]], [part]), ("a", [part], [[[part]]], [part])]:
                self.assert_alike(plan, plan)
                self.assert_unlike(plan, plan_of(0, "a", 0), 0)
                other = (plan[0], plan[1] + plan[1], [[[plan[2][0][0][0], NOUGHT], [NOUGHT, plan[2][0][0][0]]]],
                         [part_of(Fraction(top, 2 * bottom)) for top, bottom in plan[3]] * 2)
                self.assert_alike(plan, other)

    def test_short_words_that_weigh_such_a_number(self):
        # The empty word, or a word of one sign, weighs what rests do not tell from nought; the next longer one does.
        for number in UNLUCKY:
            part = (number, 1)
            begins = [ONE, NOUGHT]
            table = [[NOUGHT, ONE], [NOUGHT, NOUGHT]]
            self.assert_unlike(("a", begins, [table], [part, ONE]), plan_of(0, "a", 0), 0)
            self.assert_unlike(("a", [ONE, ONE], [table], [part, (-1, 1)]), ("a", [ONE], [[[NOUGHT]]], [(-1, 1)]), 0)
            longer = [[NOUGHT, ONE, NOUGHT], [NOUGHT, NOUGHT, ONE], [NOUGHT] * 3]
            self.assert_unlike(("a", [ONE, NOUGHT, NOUGHT], [longer], [NOUGHT, part, ONE]), plan_of(0, "a", 0), 1)
            self.assert_unlike(("ab", [ONE, NOUGHT, NOUGHT], [longer, longer], [NOUGHT, NOUGHT, part]),
                               plan_of(0, "ab", 0), 2)

    def test_ways_that_are_worth_such_a_number_together(self):
        # By each move alone there is nothing to see; gone both, the rests are nought.
        longer = [[NOUGHT, (FACTOR, 1), NOUGHT], [NOUGHT, NOUGHT, (OTHER_FACTOR, 1)], [NOUGHT] * 3]
        other = [[NOUGHT, ONE, NOUGHT], [NOUGHT, NOUGHT, ONE], [NOUGHT] * 3]
        plan = ("ab", [ONE, NOUGHT, NOUGHT], [longer, other], [NOUGHT, NOUGHT, ONE])
        self.assert_unlike(plan, plan_of(0, "ab", 0), 2)
        self.assert_alike(plan, in_other_order(plan, 1))

    def test_ways_that_add_up_to_the_modulus(self):
        # So the short word weighs something, but nothing by rests; the longer one weighs something by rests, too.
        half, whole = (2 ** 256, 1), (2 ** 512, 1)
        empty = plan_of(0, "a", 0)
        table = [[NOUGHT, ONE], [ONE, ONE]]
        for begins, ends in [([half, ONE], [half, ONE]), ([ONE, ONE], [whole, ONE]), ([whole, ONE], [ONE, ONE]),
                             ([(3, 1), ONE], [((2 ** 512 - 1) // 3, 1), (2, 1)])]:
            self.assert_unlike(("a", begins, [table], ends), empty, 0)
        for first, second in [(half, half), (ONE, whole), (whole, ONE)]:
            table = [[NOUGHT, first, ONE], [NOUGHT, ONE, NOUGHT], [NOUGHT, NOUGHT, NOUGHT]]
            self.assert_unlike(("a", [ONE, NOUGHT, NOUGHT], [table], [NOUGHT, second, ONE]), empty, 1)
        # Over two bottoms, the one way is taken 2 ** 250 times more often than the other.
        table = [[NOUGHT, (2 ** 250, 1), (1, 2 ** 250)], [NOUGHT, ONE, NOUGHT], [NOUGHT, NOUGHT, NOUGHT]]
        self.assert_unlike(("a", [ONE, NOUGHT, NOUGHT], [table], [NOUGHT, (2 ** 12, 1), ONE]), empty, 1)

    def test_a_row_that_no_place_leads_on_the_way_to_the_shortest_word(self):
        # By a, a number that is no unit, and again by a to the end; by b the longer way there.
        table = [[NOUGHT] * 5 for _ in range(5)]
        other = [[NOUGHT] * 5 for _ in range(5)]
        table[0][1], table[1][2] = (FACTOR, 1), ONE
        other[0][3] = other[3][4] = other[4][2] = ONE
        plan = ("ab", [ONE] + [NOUGHT] * 4, [table, other], [NOUGHT, NOUGHT, ONE, NOUGHT, NOUGHT])
        self.assert_unlike(plan, plan_of(0, "ab", 0), 2)

    def test_moduli_that_disagree(self):
        # Many searches are needed to tell the great number, and some of them take the two rows for one.
        great = part_of(Fraction(3 ** 2000, 7 ** 700))
        for number in UNLUCKY:
            table = [[ONE, (number, 1)], [NOUGHT, (2, 1)]]
            plan = ("a", [ONE, NOUGHT], [table], [ONE, (2, 3)])
            for other in (with_room_scaled(plan, 0, great), with_room_scaled(plan, 1, great)):
                self.assert_alike(plan, other)
                self.assert_alike(other, other)

    def test_rows_that_differ_by_such_a_number(self):
        for number in UNLUCKY:
            table = [[(number + 1, 1), ONE], [NOUGHT, (1, 2)]]
            plan = ("a", [ONE, (2, 1)], [table], [ONE, part_of(Fraction(number, 3))])
            self.assert_alike(plan, with_rows_mixed(plan, 1))
            self.assert_alike(plan, in_other_order(plan, 2))

    def test_rows_told_of_such_numbers(self):
        # The row of the begins alone is told, so the second machine's begins are guessed.
        for part in unlucky_parts():
            worth = Fraction(*part)
            if worth != 0:
                part = part_of(worth)
                plan = ("a", [ONE], [[[(2, 1)]]], [ONE])
                other = ("a", [part], [[[(2, 1)]]], [part_of(1 / worth)])
                self.assert_alike(plan, other)


class MakingTest(test_making.Asked):
    def test_one_number(self):
        for part in unlucky_parts():
            part = part_of(Fraction(*part))
            for plan in [("a", [part], [[[ONE]]], [ONE]), ("a", [ONE], [[[part]]], [part]),
                         ("a", [part, part], [[[ONE, ONE], [ONE, ONE]]], [ONE, ONE])]:
                self.hold_small(plan, 1)

    def test_rooms_that_differ_by_such_a_number(self):
        for number in UNLUCKY:
            table = [[ONE, NOUGHT], [NOUGHT, (number + 1, 1)]]
            plan = ("a", [ONE, ONE], [table], [ONE, ONE])
            self.hold_small(plan, 2)
            self.hold_small(with_rows_mixed(plan, 3), 2)
            self.hold_small(("a", [ONE, (number, 1)], [[[ONE, NOUGHT], [NOUGHT, ONE]]], [(number, 1), ONE]), 1)

    def test_grounds_by_such_numbers(self):
        longer = [[NOUGHT, (FACTOR, 1), NOUGHT], [NOUGHT, NOUGHT, (OTHER_FACTOR, 1)], [NOUGHT] * 3]
        machine = machine_of(("a", [ONE, NOUGHT, NOUGHT], [longer], [NOUGHT, NOUGHT, ONE]))
        firsts, lasts = grounds(machine)
        self.assertEqual((sorted(firsts), sorted(lasts)), (["", "a", "aa"], ["", "a", "aa"]))
        self.assertEqual(len(small(machine).begins), 3)


class SearchTest(unittest.TestCase):
    def test_moduli(self):
        some = Moduli()
        told = [some.another() for _ in range(150)]
        self.assertEqual(told[:4], [FIRST, SECOND, THIRD, FOURTH])
        for at, modulus in enumerate(told):
            self.assertEqual(modulus.bit_length(), 513)
            self.assertEqual([gcd(modulus, other) for other in told[:at]], [1] * at)
            self.assertTrue(all(modulus % small for small in range(2, 101)))

    def test_rests_that_do_not_tell(self):
        rests = Rests(FIRST)
        self.assertIsNone(rests.put([0, FACTOR]))
        self.assertIsNone(rests.put([FACTOR, 1]))
        self.assertEqual(rests.leads, [])
        self.assertIs(rests.put([0, 2]), True)
        self.assertIs(rests.put([0, FACTOR]), False)
        self.assertIs(rests.put([FIRST, 5]), False)
        self.assertIsNone(rests.put([3 * FACTOR, 6]))
        self.assertIs(rests.put([3, 6]), True)
        self.assertEqual((rests.leads, rests.rows), ([1, 0], [[0, 1], [1, 0]]))

    def test_words_in_order_and_rows_by_leads(self):
        for parts in (small_parts, rare_parts):
            for seed in range(5):
                signs, begins, moves, _ = plan_of(5, "ab", seed, parts)
                found = reached(signs, begins, moves, [NOUGHT] * 5)
                self.assertIsNone(found.word)
                self.assertEqual(found.words, sorted(found.words, key=lambda word: (len(word), word)))
                self.assertEqual(len(found.words), len(found.rows))
                for lead, row in zip(found.leads, found.rows):
                    self.assertEqual([other[lead] for other in found.rows],
                                     [ONE if other is row else NOUGHT for other in found.rows])


if __name__ == "__main__":
    unittest.main()
