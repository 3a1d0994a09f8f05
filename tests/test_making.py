"""Point 11, and point 1 as to machines made small."""

import unittest
from fractions import Fraction
from itertools import product
from random import Random

from tests.things import (Hanging, assert_machine, assert_share, big_parts, chain_plan, fraction, free_words,
                          in_other_order, machine_of, part_of, plan_in, plan_of, random_machine, rare_parts,
                          small_parts, turned_plan, weight_by_steps, with_more_rooms, with_rows_mixed, words_of)
from weighwords.building import added, beside, joined, scaled, turned
from weighwords.comparing import compared
from weighwords.machines import Machine, rooms, row_of, weight
from weighwords.making import grounds, small

NOUGHT, ONE = (0, 1), (1, 1)


def fewest_rooms(plan):
    """How many rows of weights are free, of words by words that have the free rows of all."""
    firsts, lasts = free_words(plan), free_words(turned_plan(plan))
    return len(Hanging([[weight_by_steps(plan, first + last[::-1]) for last in lasts] for first in firsts]).kept)


def has_great_numbers(plan):
    rows = [plan[1], plan[3]] + [row for table in plan[2] for row in table]
    return any(part[1] > 10 ** 9 for row in rows for part in row)


def some_words(plan, below):
    """All words of fewer signs than told, or some of them where these are too many for fractions."""
    signs, size = plan[0], len(plan[1])
    limit = 40
    if has_great_numbers(plan):
        limit, below = (16, min(below, 4)) if size < 8 else (5, min(below, 2))
    most = below - 1
    while most > 0 and sum(len(signs) ** many for many in range(most + 1)) > limit:
        most -= 1
    chance = Random(below)
    longer = ["".join(chance.choice(signs) for _ in range(many)) for many in range(most + 1, below)] if signs else []
    return words_of(signs, most) + longer


def shared_out(row, seed):
    """The row twice as long, by two shares for each that add up to it."""
    some = small_parts(seed, len(row))
    return some + [part_of(fraction(part) - fraction(its)) for part, its in zip(row, some)]


class Asked(unittest.TestCase):
    def hold_small(self, plan, fewest=None):
        """The small machine of the plan, after it was held against all that is said of it."""
        machine = machine_of(plan)
        least = small(machine)
        if fewest is None:
            fewest = fewest_rooms(plan)
        assert_machine(self, least, plan[0], fewest)
        for word in some_words(plan, rooms(machine) + rooms(least)):
            assert_share(self, weight(least, word), weight_by_steps(plan, word))
        self.assertEqual(compared(machine, least)[0], "alike")
        again = small(least)
        assert_machine(self, again, plan[0], fewest)
        self.assertEqual(compared(machine, again)[0], "alike")
        self.hold_grounds(plan, grounds(machine), fewest)
        self.assertEqual(plan_in(machine), plan)
        return least

    def hold_grounds(self, plan, told, fewest):
        self.assertIs(type(told), tuple)
        self.assertEqual(len(told), 2)
        for words in told:
            self.assertIs(type(words), list)
            self.assertEqual(len(words), fewest)
            for word in words:
                self.assertIs(type(word), str)
                self.assertTrue(all(sign in plan[0] for sign in word))
        firsts, lasts = told
        self.assertTrue(Hanging([[weight_by_steps(plan, first + last) for last in lasts] for first in firsts]).free)


class SmallTest(Asked):
    def test_written_out(self):
        # Two rooms that do the same, one that is never left to an end, and one that is never come to.
        machine = Machine("a", [(1, 2), (1, 3), ONE, NOUGHT],
                          [[[ONE, ONE, ONE, NOUGHT], [ONE, ONE, NOUGHT, NOUGHT], [NOUGHT, NOUGHT, ONE, NOUGHT],
                            [ONE, NOUGHT, ONE, ONE]]],
                          [(3, 1), (3, 1), NOUGHT, (7, 1)])
        least = small(machine)
        self.assertEqual(rooms(least), 1)
        self.assertEqual([weight(least, "a" * many) for many in range(4)], [(5, 2), (5, 1), (10, 1), (20, 1)])
        firsts, lasts = grounds(machine)
        self.assertEqual((len(firsts), len(lasts)), (1, 1))
        self.hold_small(plan_in(machine), 1)

    def test_small_plans(self):
        for seed, size in enumerate(range(5)):
            for signs in ("", "a", "ab", "cfx"):
                for parts in (small_parts, rare_parts, big_parts):
                    for turn in range(2):
                        self.hold_small(plan_of(size, signs, seed + 20 * turn, parts))

    def test_against_all_rows_of_weights(self):
        # With all words of fewer signs than rooms, ahead and behind.
        for seed, (size, signs) in enumerate([(1, "ab"), (2, "ab"), (3, "ab"), (4, "ab"), (3, "abc"), (5, "a")] * 4):
            plan = plan_of(size, signs, seed, rare_parts)
            words = words_of(signs, size - 1)
            rows = [[weight_by_steps(plan, first + last) for last in words] for first in words]
            fewest = len(Hanging(rows).kept)
            self.assertEqual(rooms(small(machine_of(plan))), fewest)
            self.assertEqual([len(one) for one in grounds(machine_of(plan))], [fewest, fewest])

    def test_twelve_rooms(self):
        for signs in ("a", "ab", "abcdef"):
            self.hold_small(plan_of(12, signs, 1, rare_parts))
            self.hold_small(plan_of(12, signs, 2), 12)

    def test_twelve_rooms_with_great_numbers(self):
        machine = random_machine(12, "abcdef", 3, big_parts)
        least = small(machine)
        assert_machine(self, least, "abcdef", 12)
        for word in ("", "c", "ea"):
            self.assertEqual(weight(least, word), weight(machine, word))
        self.assertEqual(compared(machine, least)[0], "alike")
        self.assertEqual([len(set(words)) for words in grounds(machine)], [12, 12])

    def test_more_rooms_than_need_be(self):
        for parts in (small_parts, rare_parts, big_parts):
            for seed, (size, signs, many) in enumerate([(0, "ab", 3), (1, "a", 4), (2, "abc", 2), (3, "ab", 5),
                                                        (4, "ab", 4)]):
                plan = with_rows_mixed(with_more_rooms(plan_of(size, signs, seed, parts), many, seed, parts), seed)
                self.hold_small(plan, fewest_rooms(plan_of(size, signs, seed, parts)))

    def test_what_is_found_from_one_side_alone(self):
        # Each room has a twin from which the same is done, however it is shared out which of both is come to.
        signs, begins, moves, ends = plan_of(4, "ab", 6)
        ways = [[shared_out(row, seed + 10 * sign) for seed, row in enumerate(table + table)]
                for sign, table in enumerate(moves)]
        twins = (signs, shared_out(begins, 99), ways, ends + ends)
        self.assertEqual((len(free_words(twins)), len(free_words(turned_plan(twins)))), (8, 4))
        self.hold_small(twins, 4)
        self.hold_small(turned_plan(twins), 4)

    def test_all_weights_nought(self):
        for size, signs in product((1, 2, 5, 12), ("", "a", "abc")):
            plan = plan_of(size, signs, 1)
            for empty in (plan[:3] + ([NOUGHT] * size,), (signs, [NOUGHT] * size) + plan[2:]):
                self.hold_small(empty, 0)
                self.assertEqual(grounds(machine_of(empty)), ([], []))
        machine = random_machine(6, "ab", 4, big_parts)
        self.hold_small(plan_in(added(machine, scaled(machine, (-1, 1)))), 0)
        self.hold_small(plan_in(scaled(machine, NOUGHT)), 0)

    def test_no_rooms(self):
        for signs in ("", "a", "abcdef"):
            self.hold_small(plan_of(0, signs, 0), 0)

    def test_no_signs(self):
        for size in (1, 2, 5, 12):
            plan = plan_of(size, "", 3)
            least = self.hold_small(plan, 1)
            self.assertEqual(grounds(machine_of(plan)), ([""], [""]))
            self.assertEqual(rooms(least), 1)
        self.hold_small(("", [ONE, ONE], [], [ONE, (-1, 1)]), 0)

    def test_chains(self):
        for parts in (small_parts, big_parts):
            tops = [part for part in parts(1, 30) if part != NOUGHT]
            for size in (1, 2, 6):
                self.hold_small(chain_plan("ab", tops[:size + 1]), size)
        self.hold_small(chain_plan("a", [ONE] * 13), 12)


class BuiltTest(Asked):
    def test_a_machine_and_itself(self):
        for parts in (small_parts, rare_parts, big_parts):
            for seed, (size, signs) in enumerate([(2, "ab"), (3, "a"), (3, "abc"), (6, "ab")]):
                if parts is big_parts and size > 3:
                    continue
                machine = random_machine(size, signs, seed, parts)
                fewest = fewest_rooms(plan_in(machine))
                self.hold_small(plan_in(added(machine, machine)), fewest)
                other = machine_of(in_other_order(plan_in(machine), seed))
                self.hold_small(plan_in(added(machine, scaled(other, (-3, 2)))), fewest)
                self.hold_small(plan_in(added(machine, scaled(other, (-1, 1)))), 0)

    def test_a_machine_beside_itself(self):
        for size, signs, parts in [(2, "ab", small_parts), (2, "a", big_parts), (3, "ab", small_parts)]:
            machine = random_machine(size, signs, 11, parts)
            # Of each two rooms it is all the same which of them is the first one's.
            self.hold_small(plan_in(beside(machine, machine)), size * (size + 1) // 2)

    def test_joined_and_added(self):
        for parts in (small_parts, rare_parts, big_parts):
            one, other = random_machine(2, "ab", 1, parts), random_machine(3, "ab", 2, parts)
            for built in (joined(one, other), joined(one, one), added(one, turned(one)), beside(one, other),
                          added(joined(one, other), scaled(joined(one, other), (4, 1)))):
                self.hold_small(plan_in(built))

    def test_shares_of_more_than_sixty_figures(self):
        plan = with_rows_mixed(plan_of(4, "ab", 8, big_parts), 9)
        machine = machine_of(plan)
        built = added(machine, small(turned(turned(machine))))
        self.assertGreater(max(part[1] for part in built.ends + built.begins), 10 ** 60)
        self.hold_small(plan_in(built), 4)
        least = small(built)
        self.assertEqual(rooms(small(added(least, scaled(machine, (-2, 1))))), 0)

    def test_one_number_makes_a_room_needful(self):
        machine = random_machine(3, "ab", 12)
        signs, begins, moves, ends = plan_in(added(machine, machine))
        self.assertEqual(rooms(small(Machine(signs, begins, moves, ends))), 3)
        moves[0][5][4] = part_of(fraction(moves[0][5][4]) + Fraction(1, 10 ** 50))
        self.hold_small((signs, begins, moves, ends), 6)


class OwnTest(unittest.TestCase):
    def test_told_words_changed_by_the_asker(self):
        machine = random_machine(3, "ab", 1)
        firsts, lasts = grounds(machine)
        kept = (list(firsts), list(lasts))
        firsts.clear()
        lasts[0] = "b"
        self.assertEqual(grounds(machine), kept)

    def test_firsts_and_lasts_are_two_lists(self):
        for machine in (random_machine(0, "a", 1), random_machine(2, "", 1), random_machine(3, "ab", 1)):
            firsts, lasts = grounds(machine)
            self.assertIsNot(firsts, lasts)

    def test_no_list_is_one_of_the_machine_handed_in(self):
        for size in (0, 1, 3):
            machine = random_machine(size, "ab", 5)
            least = small(machine)
            lists = [[one.begins, one.moves, one.ends, *one.moves, *[row for table in one.moves for row in table]]
                     for one in (machine, least)]
            self.assertFalse({id(row) for row in lists[0]} & {id(row) for row in lists[1]})

    def test_nothing_asked_later_changes_what_was_told(self):
        machine = random_machine(4, "ab", 6)
        least = small(machine)
        plan = plan_in(least)
        small(least)
        grounds(least)
        added(least, machine)
        row_of(least, "ab").clear()
        self.assertEqual(plan_in(least), plan)
        self.assertEqual(grounds(machine), grounds(machine))


if __name__ == "__main__":
    unittest.main()
