"""Point 10, and point 1 as to what is compared."""

import unittest
from fractions import Fraction
from itertools import product

from tests.things import (Hanging, assert_refused, assert_share, big_parts, both_plans, chain_plan, copied, ended,
                          fraction, free_words, in_other_order, machine_of, part_of, plan_in, plan_of, random_machine,
                          rare_parts, row_by_steps, small_parts, weight_by_steps, with_more_rooms, with_rows_mixed,
                          words_of)
from weighwords.building import added, beside, joined, scaled, turned
from weighwords.comparing import compared
from weighwords.errors import OtherSigns
from weighwords.machines import Machine, rooms, weight
from weighwords.making import small
from weighwords.shares import is_share

NOUGHT, ONE = (0, 1), (1, 1)


def led(plan, row, sign):
    """The row of both plans' rooms, led by the sign, as fractions."""
    signs, _, moves, ends = plan
    return row_by_steps((signs, [part_of(worth) for worth in row], moves, ends), sign)


class Asked(unittest.TestCase):
    def compared(self, one, other):
        """What is told of machines of the two plans, after it was held against all that is said of it."""
        first, second = machine_of(one), machine_of(other)
        told = compared(first, second)
        self.assertIs(type(told), tuple)
        self.assertEqual(len(told), 2)
        self.assertIn(told[0], ("unlike", "alike"))
        if told[0] == "unlike":
            self.hold_unlike(one, other, told[1])
        else:
            self.hold_alike(one, other, told[1])
        self.assertEqual((plan_in(first), plan_in(second)), (one, other))
        return told

    def hold_unlike(self, one, other, word):
        self.assertIs(type(word), str)
        self.assertTrue(all(sign in one[0] for sign in word))
        self.assertNotEqual(weight_by_steps(one, word), weight_by_steps(other, word))
        both = both_plans(one, other)
        shorter = sum(len(one[0]) ** many for many in range(len(word)))
        words = words_of(one[0], len(word) - 1) if shorter < 60 else free_words(both)
        for tried in words:
            if len(tried) < len(word):
                self.assertEqual(weight_by_steps(both, tried), 0, tried)

    def hold_alike(self, one, other, rows):
        self.assertIs(type(rows), list)
        both = both_plans(one, other)
        for row in rows:
            self.assertIs(type(row), list)
            self.assertEqual(len(row), len(both[1]))
            self.assertTrue(all(is_share(part) for part in row))
        worths = [[fraction(part) for part in row] for row in rows]
        hanging = Hanging(worths)
        self.assertTrue(hanging.free)
        self.assertTrue(hanging.holds([fraction(part) for part in both[1]]))
        for row in worths:
            self.assertEqual(ended(both, row), 0)
            for sign in one[0]:
                self.assertTrue(hanging.holds(led(both, row, sign)))

    def assert_alike(self, one, other):
        for pair in ((one, other), (other, one)):
            self.assertEqual(self.compared(*pair)[0], "alike")

    def assert_unlike(self, one, other, length):
        for pair in ((one, other), (other, one)):
            kind, word = self.compared(*pair)
            self.assertEqual(kind, "unlike")
            self.assertEqual(len(word), length)


class SmallTest(Asked):
    def test_written_out(self):
        # By both, a word weighs two to the number of its signs; the third differs by the word b alone.
        one = Machine("ab", [ONE], [[[(2, 1)]], [[(2, 1)]]], [ONE])
        other = Machine("ab", [(1, 2), (1, 2)], [[[ONE, ONE]] * 2, [[(2, 1), NOUGHT], [NOUGHT, (2, 1)]]], [ONE, ONE])
        third = Machine("ab", [ONE, NOUGHT], [[[(2, 1), NOUGHT], [NOUGHT, NOUGHT]], [[(2, 1), ONE], [NOUGHT, NOUGHT]]],
                        [ONE, (-1, 3)])
        self.assertEqual(compared(one, other), ("alike", [[ONE, (1, 2), (1, 2)]]))
        self.assertEqual(compared(one, third), ("unlike", "b"))
        self.assertEqual(compared(third, one), ("unlike", "b"))
        self.assertEqual(compared(other, third), ("unlike", "b"))
        self.assertEqual(compared(third, third)[0], "alike")

    def test_each_small_pair(self):
        told = {"alike": 0, "unlike": 0}
        for seed, (first, second) in enumerate(product(range(4), repeat=2)):
            for signs in ("", "a", "ab", "cfx"):
                for parts in (small_parts, rare_parts, big_parts):
                    for turn in range(3):
                        one, other = plan_of(first, signs, seed + turn, parts), plan_of(second, signs, seed + 70, parts)
                        kind, held = self.compared(one, other)
                        told[kind] += 1
                        both = both_plans(one, other)
                        differ = any(weight_by_steps(both, word) != 0 for word in free_words(both))
                        self.assertEqual(kind, "unlike" if differ else "alike")
        self.assertGreater(min(told.values()), 30)

    def test_a_machine_with_itself(self):
        for parts in (small_parts, rare_parts, big_parts):
            for size, signs in [(0, ""), (0, "abc"), (1, ""), (1, "a"), (3, "ab"), (5, "abcdef"), (12, "a"), (12, "ab")]:
                plan = plan_of(size, signs, 3, parts)
                self.assert_alike(plan, plan)
                machine = machine_of(plan)
                self.assertEqual(compared(machine, machine)[0], "alike")

    def test_one_of_no_rooms(self):
        for signs in ("", "a", "abc"):
            empty = plan_of(0, signs, 0)
            self.assertEqual(self.compared(empty, empty), ("alike", []))
            for size in (1, 3, 12):
                noughts = plan_of(size, signs, 1)
                self.assert_alike(empty, noughts[:3] + ([NOUGHT] * size,))
                self.assert_alike(empty, (signs, [NOUGHT] * size) + noughts[2:])
                self.assert_unlike(empty, (signs, [ONE] * size, noughts[2], [ONE] * size), 0)

    def test_no_signs(self):
        one = ("", [(1, 2), (1, 3)], [], [(1, 1), (3, 1)])
        self.assert_alike(one, ("", [(3, 2)], [], [ONE]))
        self.assert_alike(one, ("", [ONE, NOUGHT, (1, 2)], [], [ONE, (5, 1), ONE]))
        self.assert_unlike(one, ("", [(3, 2)], [], [(2, 1)]), 0)
        self.assert_unlike(one, ("", [], [], []), 0)


class AlikeTest(Asked):
    def test_the_same_in_other_rooms(self):
        for parts in (small_parts, rare_parts, big_parts):
            for seed, (size, signs) in enumerate([(2, "ab"), (4, "a"), (6, "bcd"), (12, "ab"), (12, "abcdef")]):
                plan = plan_of(size, signs, seed, parts)
                self.assert_alike(plan, in_other_order(plan, seed))

    def test_rows_mixed(self):
        for parts in (small_parts, rare_parts, big_parts):
            for seed, (size, signs) in enumerate([(2, "ab"), (3, "a"), (4, "bcd"), (6, "ab")]):
                plan = plan_of(size, signs, seed, parts)
                mixed = with_rows_mixed(plan, seed)
                self.assertNotEqual(plan, mixed)
                self.assert_alike(plan, mixed)
                self.assert_alike(mixed, in_other_order(mixed, seed))

    def test_rooms_into_which_or_out_of_which_nothing_leads(self):
        for parts in (small_parts, rare_parts, big_parts):
            for seed, (size, signs, many) in enumerate([(0, "ab", 3), (1, "a", 4), (2, "abc", 2), (3, "ab", 9),
                                                        (6, "ab", 6), (0, "abcdef", 12)]):
                plan = plan_of(size, signs, seed, parts)
                more = with_more_rooms(plan, many, seed + 1, parts)
                self.assertEqual(len(more[1]), size + many)
                self.assert_alike(plan, more)
                self.assert_alike(more, in_other_order(with_more_rooms(plan, 1, seed + 2, parts), seed))

    def test_all_weights_nought(self):
        size = 5
        for signs in ("a", "abc"):
            plan = plan_of(size, signs, 1)
            for empty in (plan_of(0, signs, 0), (signs, [NOUGHT] * size) + plan[2:]):
                self.assert_alike(plan[:3] + ([NOUGHT] * size,), empty)
            machine = machine_of(plan)
            lost = added(machine, scaled(machine, (-1, 1)))
            self.assert_alike(plan_in(lost), plan_of(0, signs, 0))

    def test_laws_of_building(self):
        for parts in (small_parts, rare_parts, big_parts):
            one, other, third = [random_machine(2, "ab", seed, parts) for seed in (1, 2, 3)]
            pairs = [(added(one, other), added(other, one)), (beside(one, other), beside(other, one)),
                     (joined(joined(one, other), third), joined(one, joined(other, third))),
                     (turned(joined(one, other)), joined(turned(other), turned(one))),
                     (beside(added(one, other), third), added(beside(one, third), beside(other, third))),
                     (scaled(joined(one, other), (-2, 3)), joined(one, scaled(other, (-2, 3)))),
                     (added(one, one), scaled(one, (2, 1))), (turned(turned(one)), one),
                     (scaled(scaled(one, (7, 5)), (5, 7)), one)]
            for first, second in pairs:
                self.assert_alike(plan_in(first), plan_in(second))
        self.assertEqual(compared(joined(one, other), joined(other, one))[0], "unlike")

    def test_twelve_rooms_and_twelve(self):
        one, other = random_machine(3, "ab", 5), random_machine(4, "ab", 6)
        self.assert_alike(plan_in(beside(one, other)), plan_in(beside(other, one)))
        plan = plan_of(12, "abcdef", 7)
        self.assert_alike(plan, with_rows_mixed(plan, 8))

    def test_machines_told_and_handed_in_again(self):
        for parts in (small_parts, big_parts):
            plan = with_rows_mixed(with_more_rooms(plan_of(4, "ab", 3, parts), 4, 5, parts), 6)
            least = small(machine_of(plan))
            self.assertEqual(rooms(least), 4)
            self.assert_alike(plan, plan_in(least))
            built = joined(scaled(least, (-5, 7)), least)
            self.assert_alike(plan_in(built), in_other_order(plan_in(built), 1))


class UnlikeTest(Asked):
    def test_one_number_changed(self):
        for signs, size, parts in [("ab", 3, small_parts), ("a", 4, rare_parts), ("ab", 2, big_parts)]:
            plan = plan_of(size, signs, 9, parts)
            changed = []
            for place, at in product((1, 3), range(size)):
                other = copied(plan)
                other[place][at] = part_of(fraction(other[place][at]) + Fraction(1, 10 ** 40))
                changed.append(other)
            for sign, here, there in product(range(len(signs)), range(size), range(size)):
                other = copied(plan)
                other[2][sign][here][there] = part_of(fraction(other[2][sign][here][there]) - 1)
                changed.append(other)
            for other in changed:
                both = both_plans(plan, other)
                differ = [word for word in free_words(both) if weight_by_steps(both, word) != 0]
                kind, word = self.compared(plan, in_other_order(other, 4))
                self.assertEqual(kind, "unlike" if differ else "alike")
                if differ:
                    self.assertEqual(len(word), len(differ[0]))

    def test_one_number_changed_of_twelve_rooms(self):
        for parts in (small_parts, big_parts):
            plan = plan_of(12, "ab", 2, parts)
            ends, begins, moves = copied(plan), copied(plan), copied(plan)
            here = next(at for at, part in enumerate(plan[1]) if at > 3 and part != NOUGHT)
            there = next(at for at, part in enumerate(plan[3]) if at > 5 and part != NOUGHT)
            ends[3][here] = begins[1][there] = moves[2][1][here][there] = (3, 77)
            self.assert_unlike(plan, in_other_order(ends, 1), 0)
            self.assert_unlike(plan, in_other_order(begins, 2), 0)
            self.assert_unlike(plan, in_other_order(moves, 3), 1)

    def test_only_long_words_differ(self):
        for parts in (small_parts, big_parts):
            tops = [part for part in parts(1, 30) if part != NOUGHT]
            for signs in ("a", "ab"):
                for size in (1, 2, 5, 8):
                    one = chain_plan(signs, tops[:size + 1])
                    other = chain_plan(signs, tops[:size] + [(1, 13)])
                    self.assert_unlike(one, other, size - 1)
                    self.assert_unlike(one, plan_of(0, signs, 0), size - 1)
                    self.assert_unlike(one, in_other_order(chain_plan(signs, tops[:size + 2]), 1), size - 1)
        self.assert_unlike(chain_plan("a", tops[:13]), chain_plan("a", tops[:12] + [(1, 13)]), 11)

    def test_one_long_word_alone_differs(self):
        # The word a b b a .. alone leads through all rooms.
        word = "abbaababbba"
        plan = chain_plan("ab", [ONE] * 13)
        for at, sign in enumerate(word):
            plan[2]["ab".index(sign) ^ 1][at][at + 1] = NOUGHT
        self.assertEqual(self.compared(plan, plan_of(0, "ab", 0)), ("unlike", word))
        other = copied(plan)
        other[3][11] = (1, 2)
        self.assertEqual(self.compared(plan, other), ("unlike", word))
        self.assertEqual(self.compared(in_other_order(other, 1), plan), ("unlike", word))

    def test_two_rings(self):
        # Ways around the smaller ring are the first to be back where they began.
        for first, second in [(1, 2), (2, 3), (4, 5), (11, 12)]:
            plans = []
            for size in (first, second):
                table = [[ONE if there == (here + 1) % size else NOUGHT for there in range(size)]
                         for here in range(size)]
                unit = [ONE] + [NOUGHT] * (size - 1)
                plans.append(("a", unit, [table], unit))
            one, other = plans
            lengths = [many for many in range(first + second)
                       if weight_by_steps(one, "a" * many) != weight_by_steps(other, "a" * many)]
            self.assert_unlike(one, other, lengths[0])

    def test_they_differ_only_where_both_have_been_gone_through(self):
        # Weights that keep to two rules of so many rooms each, alike as long as can be: up to twice as many signs.
        for size, most in [(1, 9), (2, 9), (3, 9), (6, 4), (12, 3)]:
            worths = [Fraction(part[0] % (most + 1) + (at == size - 1)) for at, part in
                      enumerate(small_parts(size + 40, 2 * size))]
            one, other = ruled_plan(worths), ruled_plan(worths[:-1] + [worths[-1] + 1])
            self.assertEqual([weight_by_steps(one, "a" * many) for many in range(2 * size)], worths)
            self.assert_unlike(one, other, 2 * size - 1)


def ruled_plan(worths):
    """A plan of half as many rooms as there are worths, by which words of a weigh just these."""
    size = len(worths) // 2
    rows = [worths[at:at + size] + [worths[at + size]] for at in range(size)]
    # Solved for the rule that tells each worth from those ahead.
    for at in range(size):
        lead = next(row for row in rows[at:] if row[at] != 0)
        rows.remove(lead)
        lead = [worth / lead[at] for worth in lead]
        rows = [[mine - row[at] * its for mine, its in zip(row, lead)] for row in rows]
        rows.insert(at, lead)
    rule = [part_of(row[size]) for row in rows]
    table = [[rule[here] if there == size - 1 else ONE if there == here - 1 else NOUGHT for there in range(size)]
             for here in range(size)]
    return ("a", [part_of(worth) for worth in worths[:size]], [table], [ONE] + [NOUGHT] * (size - 1))


class RefusalTest(unittest.TestCase):
    def test_other_signs(self):
        for signs, others in [("", "a"), ("a", "b"), ("ab", "a"), ("ab", "abc"), ("ab", "ac"), ("abcdef", "bcdefg")]:
            for first, second in [(0, 0), (1, 1), (0, 3), (12, 12), (3, 2)]:
                one, other = random_machine(first, signs, 1), random_machine(second, others, 1)
                assert_refused(self, OtherSigns, compared, one, other)
                assert_refused(self, OtherSigns, compared, other, one)


class OwnTest(unittest.TestCase):
    def test_told_rows_changed_by_the_asker(self):
        plan = plan_of(3, "ab", 1)
        one, other = machine_of(plan), machine_of(in_other_order(plan, 2))
        told = compared(one, other)
        kept = [list(row) for row in told[1]]
        told[1][0][0] = (9, 1)
        told[1][1].clear()
        told[1].pop()
        self.assertEqual(compared(one, other), ("alike", kept))
        self.assertEqual(plan_in(one), plan)
        assert_share(self, weight(one, "ab"), weight_by_steps(plan, "ab"))

    def test_no_row_is_a_list_of_the_machines(self):
        for size in (0, 1, 3):
            machine = random_machine(size, "ab", size)
            _, rows = compared(machine, machine)
            held = [id(machine.begins), id(machine.ends)] + [id(row) for table in machine.moves for row in table]
            self.assertFalse(set(map(id, rows)) & set(held))
            self.assertEqual(len(set(map(id, rows))), len(rows))

    def test_nothing_asked_later_changes_what_was_told(self):
        one, other = random_machine(4, "ab", 1), random_machine(4, "ab", 2)
        told = compared(one, one)
        kept = [list(row) for row in told[1]]
        self.assertEqual(compared(one, other)[0], "unlike")
        compared(other, other)
        self.assertEqual(compared(one, one), told)
        self.assertEqual(told, ("alike", kept))


if __name__ == "__main__":
    unittest.main()
