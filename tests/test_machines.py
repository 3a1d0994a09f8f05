"""Points 6, 7 and 8, and point 1 as to machines: what is handed in is not kept, what is told is the asker's own."""

import unittest
from fractions import Fraction
from itertools import product

from tests.things import (BIG, assert_machine, assert_refused, assert_row, assert_share, big_parts, copied, ended,
                          fraction, machine_of, other_things, part_of, plan_in, plan_of, rare_parts, row_by_steps,
                          row_by_ways, small_parts, weight_by_steps, weight_by_ways, words_of)
from weighwords.errors import NoMachine, NoWord, TooMany
from weighwords.machines import Machine, rooms, row_of, summed, weight

NOUGHT, ONE = (0, 1), (1, 1)

# So many rooms and signs that all ways of words so long can be gone one by one.
GONE = [(0, "", 0), (0, "ab", 3), (0, "abcdef", 2), (1, "", 0), (1, "a", 6), (1, "abcdef", 2), (2, "", 0), (2, "z", 6),
        (2, "bdy", 3), (3, "ab", 4), (4, "am", 3), (5, "x", 3), (6, "cd", 2), (12, "", 0), (12, "ab", 1), (12, "q", 2)]

WRONG_PARTS = other_things() + ["1/2", "", [1, 2], [(1, 2)], (), (1,), (1, 1, 1), (2, 4), (-3, 6), (1, 0), (0, 0),
                                (1, -2), (-1, -1), (0, 2), (0, -1), (True, 1), (1, True), (0, True), (False, 1),
                                (0, False), (1.0, 1), (1, 1.0), ("1", "2"), (None, 1), ((1, 2), 1), (BIG * 3, 3)]

WRONG_LISTS = other_things() + ["", "ab", (), ((1, 1),), ((1, 1), (1, 1)), {(1, 1): (1, 1)}]


def pair_plan(size=2, signs="ab"):
    """A plain plan to be made wrong in one place."""
    return copied((signs, [(1, 2)] * size, [[[(2, 3)] * size for _ in range(size)] for _ in signs], [(3, 1)] * size))


def assert_plan_refused(test, plan, kind=NoMachine):
    assert_refused(test, kind, Machine, *plan)


class WeightTest(unittest.TestCase):
    def assert_word(self, machine, word, worths, worth):
        assert_row(self, row_of(machine, word), worths)
        assert_share(self, weight(machine, word), worth)

    def test_written_out(self):
        machine = Machine("ab", [(1, 1), (0, 1)],
                          [[[(1, 1), (1, 1)], [(0, 1), (1, 1)]], [[(1, 2), (0, 1)], [(0, 1), (1, 3)]]],
                          [(0, 1), (1, 1)])
        self.assertEqual(rooms(machine), 2)
        self.assertEqual(row_of(machine, ""), [(1, 1), (0, 1)])
        self.assertEqual(row_of(machine, "a"), [(1, 1), (1, 1)])
        self.assertEqual(row_of(machine, "ab"), [(1, 2), (1, 3)])
        self.assertEqual(row_of(machine, "ba"), [(1, 2), (1, 2)])
        self.assertEqual(weight(machine, ""), (0, 1))
        self.assertEqual(weight(machine, "aaa"), (3, 1))
        self.assertEqual(weight(machine, "ab"), (1, 3))
        self.assertEqual(weight(machine, "ba"), (1, 2))
        self.assertEqual(weight(machine, "aab"), (2, 3))
        self.assertEqual(summed(machine, 0), (0, 1))
        self.assertEqual(summed(machine, 1), (1, 1))
        self.assertEqual(summed(machine, 2), (2 * 6 + 2 + 3, 6))

    def test_all_ways_gone_one_by_one(self):
        for parts in (small_parts, big_parts, rare_parts):
            for seed, (size, signs, most) in enumerate(GONE):
                plan = plan_of(size, signs, seed, parts)
                machine = machine_of(plan)
                self.assertEqual(rooms(machine), size)
                for word in words_of(signs, most):
                    worths = row_by_ways(plan, word)
                    self.assert_word(machine, word, worths, ended(plan, worths))

    def test_each_number_of_rooms_and_signs(self):
        for size, many in product(range(13), range(7)):
            signs = "bcfkxz"[:many]
            for parts in (small_parts, rare_parts):
                plan = plan_of(size, signs, 7, parts)
                machine = machine_of(plan)
                assert_machine(self, machine, signs, size)
                for word in ["", *signs, signs, signs[::-1], signs[:1] * 3, signs[1:] + signs[:2]]:
                    worths = row_by_steps(plan, word)
                    self.assert_word(machine, word, worths, ended(plan, worths))

    def test_twelve_rooms_with_great_numbers_over_many_bottoms(self):
        plan = plan_of(12, "abcdef", 1, big_parts)
        machine = machine_of(plan)
        for word in ["", "f", "ea"]:
            worths = row_by_steps(plan, word)
            self.assert_word(machine, word, worths, ended(plan, worths))

    def test_long_words(self):
        for size, signs in [(1, "a"), (2, "ab"), (5, "abc"), (12, "ab")]:
            plan = plan_of(size, signs, 3)
            machine = machine_of(plan)
            word = (signs + signs[::-1] + signs[:1]) * 8
            worths = row_by_steps(plan, word)
            self.assert_word(machine, word, worths, ended(plan, worths))

    def test_the_order_of_signs_and_of_rooms(self):
        # By a from room 0 to room 1, by b from there to room 2: none the other way round.
        to_one = [[NOUGHT, (2, 1), NOUGHT], [NOUGHT] * 3, [NOUGHT] * 3]
        to_two = [[NOUGHT] * 3, [NOUGHT, NOUGHT, (3, 1)], [NOUGHT] * 3]
        machine = Machine("ab", [(5, 1), NOUGHT, NOUGHT], [to_one, to_two], [NOUGHT, NOUGHT, (7, 1)])
        worths = {"ab": 210}
        for word in words_of("ab", 4):
            assert_share(self, weight(machine, word), worths.get(word, 0))
        self.assertEqual(row_of(machine, "a"), [NOUGHT, (10, 1), NOUGHT])
        self.assertEqual(row_of(machine, "ab"), [NOUGHT, NOUGHT, (30, 1)])

    def test_what_is_summed_to_nought(self):
        machine = Machine("a", [ONE, (-1, 1)], [[[(1, 2), (1, 2)], [(1, 3), (2, 3)]]], [ONE, ONE])
        self.assertEqual([weight(machine, "a" * many) for many in range(5)], [NOUGHT] * 5)
        self.assertEqual(row_of(machine, "a"), [(1, 6), (-1, 6)])

    def test_no_rooms(self):
        for signs in ["", "a", "abcdef"]:
            machine = Machine(signs, [], [[] for _ in signs], [])
            assert_machine(self, machine, signs, 0)
            for word in words_of(signs, 2):
                self.assertEqual(row_of(machine, word), [])
                assert_share(self, weight(machine, word), 0)
            for many in (0, 1, 60):
                assert_share(self, summed(machine, many), 0)

    def test_no_signs(self):
        machine = Machine("", [(1, 2), (3, 1)], [], [(5, 1), (1, 7)])
        assert_machine(self, machine, "", 2)
        self.assertEqual(row_of(machine, ""), [(1, 2), (3, 1)])
        assert_share(self, weight(machine, ""), Fraction(41, 14))
        assert_share(self, summed(machine, 0), Fraction(41, 14))
        for many in (1, 2, 60):
            assert_share(self, summed(machine, many), 0)

    def test_shares_of_more_than_sixty_figures(self):
        great = (3 ** 700, 2 ** 500)
        plan = ("a", [great], [[[great]]], [(5 ** 300, 7)])
        machine = machine_of(plan)
        self.assertEqual(machine.begins, [great])
        for many in range(4):
            self.assert_word(machine, "a" * many, [fraction(great) ** (many + 1)],
                             fraction(great) ** (many + 1) * Fraction(5 ** 300, 7))


class SummedTest(unittest.TestCase):
    def test_against_all_words(self):
        for parts in (small_parts, big_parts, rare_parts):
            for seed, (size, signs, most) in enumerate([(0, "ab", 2), (1, "abc", 3), (2, "ab", 5), (3, "a", 6),
                                                        (3, "abcdef", 2), (5, "xyz", 2), (12, "ab", 2)]):
                plan = plan_of(size, signs, seed, parts)
                machine = machine_of(plan)
                for many in range(most + 1):
                    worth = sum(weight_by_steps(plan, word) for word in words_of(signs, many, many))
                    assert_share(self, summed(machine, many), worth)

    def test_many_signs(self):
        for size, signs, parts in [(1, "a", small_parts), (3, "ab", small_parts), (12, "abcdef", rare_parts),
                                   (2, "abc", big_parts)]:
            _, begins, moves, ends = plan_of(size, signs, 9, parts)
            together = [[part_of(sum(fraction(table[here][there]) for table in moves)) for there in range(size)]
                        for here in range(size)]
            machine = Machine(signs, begins, moves, ends)
            for many in (0, 1, 7, 30, 59, 60):
                worth = weight_by_steps(("s", begins, [together], ends), "s" * many)
                assert_share(self, summed(machine, many), worth)

    def test_two_to_the_sixty(self):
        machine = Machine("ab", [ONE], [[[ONE]], [[ONE]]], [ONE])
        for many in range(61):
            self.assertEqual(summed(machine, many), (2 ** many, 1))
        halved = Machine("ab", [ONE], [[[(1, 4)]], [[(1, 4)]]], [ONE])
        self.assertEqual(summed(halved, 60), (1, 2 ** 60))
        against = Machine("ab", [ONE], [[[(5, 3)]], [[(-5, 3)]]], [ONE])
        self.assertEqual([summed(against, many) for many in (0, 1, 2, 60)], [ONE, NOUGHT, NOUGHT, NOUGHT])


class NoWordTest(unittest.TestCase):
    def wrong_words(self):
        return other_things() + [["a"], [], ("a",), ("a", "b"), {"a": 1}, b"a", b"ab", "c", "A", "B", "aB", "ba ", " ",
                                 "a b", "a\n", "1", "abz", "zab", "abab" * 20 + "d", "-", "\u00e4", "\u0430", "\uff41",
                                 "a\u0301", "\ud800", "\0", "a,b"]

    def test_what_is_no_word_is_refused(self):
        for size in (0, 1, 3):
            machine = machine_of(plan_of(size, "ab", size))
            for thing in self.wrong_words():
                assert_refused(self, NoWord, row_of, machine, thing)
                assert_refused(self, NoWord, weight, machine, thing)

    def test_without_signs_there_is_the_empty_word_alone(self):
        machine = Machine("", [ONE], [], [ONE])
        self.assertEqual(weight(machine, ""), ONE)
        for thing in other_things() + ["a", "z", " ", "abc", [""], [], ()]:
            assert_refused(self, NoWord, row_of, machine, thing)
            assert_refused(self, NoWord, weight, machine, thing)

    def test_each_letter_is_a_sign_or_none(self):
        letters = "abcdefghijklmnopqrstuvwxyz"
        for at in range(0, 26, 5):
            signs = letters[at:at + 6]
            machine = machine_of(plan_of(2, signs, at))
            for letter in letters:
                for word in (letter, signs + letter, letter + signs):
                    if letter in signs:
                        self.assertEqual(len(row_of(machine, word)), 2)
                    else:
                        assert_refused(self, NoWord, row_of, machine, word)
                        assert_refused(self, NoWord, weight, machine, word)

    def test_a_refusal_changes_nothing(self):
        plan = plan_of(3, "ab", 5)
        machine = machine_of(plan)
        for thing in self.wrong_words():
            assert_refused(self, NoWord, weight, machine, thing)
        assert_share(self, weight(machine, "abba"), weight_by_ways(plan, "abba"))
        self.assertEqual(plan_in(machine), plan)


class NoMachineTest(unittest.TestCase):
    def test_what_is_one(self):
        for signs in ["", "a", "z", "az", "abcdef", "uvwxyz", "acegik"]:
            for size in (0, 1, 2, 12):
                assert_machine(self, Machine(*pair_plan(size, signs)), signs, size)

    def test_wrong_signs(self):
        wrong = ["ba", "aa", "aba", "abb", "abdc", "zy", "A", "aB", "AB", "Z", "1", "a1", "0", " ", "a ", " a", "a\n",
                 "a,b", "-", "_", "{", "`", "a{", "\u00e4", "a\u00e4", "\u0430", "\uff41", "\ud800", "a\0", "abcdefg",
                 "bcdefgh", "abcdefghijklmnopqrstuvwxyz", "aaaaaaa", "abcdeff", "abcdef ", "a" * 1000]
        for signs in wrong:
            for size in (0, 1, 2):
                assert_plan_refused(self, pair_plan(size, signs))

    def test_signs_that_are_no_text(self):
        things = other_things() + [["a", "b"], ("a", "b"), [], (), {"a": 1, "b": 2}, b"ab", b"", ["ab"]]
        for thing in things:
            for size in (0, 2):
                assert_plan_refused(self, (thing, *pair_plan(size, "ab")[1:]))
                assert_plan_refused(self, (thing, *pair_plan(size, "")[1:]))

    def test_other_things_in_place_of_lists(self):
        for thing in WRONG_LISTS:
            for place in (1, 2, 3):
                for size, signs in [(0, ""), (0, "a"), (0, "ab"), (1, "a"), (2, "ab")]:
                    plan = list(pair_plan(size, signs))
                    plan[place] = thing
                    assert_plan_refused(self, plan)
            for sign in (0, 1):
                plan = pair_plan()
                plan[2][sign] = thing
                assert_plan_refused(self, plan)
                plan = pair_plan(0)
                plan[2][sign] = thing
                assert_plan_refused(self, plan)
                for here in (0, 1):
                    plan = pair_plan()
                    plan[2][sign][here] = thing
                    assert_plan_refused(self, plan)

    def test_lists_too_short_or_too_long(self):
        for size, signs in [(1, "a"), (2, "ab"), (3, "abc"), (12, "ab")]:
            for change in (list.pop, lambda one: one.append(one[0]), list.clear, lambda one: one.extend(one)):
                plans = [pair_plan(size, signs) for _ in range(6)]
                change(plans[0][1])
                change(plans[1][2])
                change(plans[2][3])
                change(plans[3][2][0])
                change(plans[4][2][-1][0])
                change(plans[5][2][0][-1])
                for plan in plans:
                    assert_plan_refused(self, plan)

    def test_nearly_without_rooms_or_signs(self):
        for plan in [("", [], [[]], []), ("a", [], [], []), ("a", [], [[[]]], []), ("", [ONE], [], []),
                     ("", [], [], [ONE]), ("", [ONE], [[[ONE]]], [ONE]), ("a", [ONE], [[]], [ONE]),
                     ("a", [ONE], [[[]]], [ONE]), ("a", [ONE], [[ONE]], [ONE]), ("a", [ONE], [ONE], [ONE]),
                     ("a", [ONE], [[[ONE], [ONE]]], [ONE]), ("a", [ONE], [[[ONE]], [[ONE]]], [ONE])]:
            assert_plan_refused(self, plan)

    def test_wrong_shares_in_any_place(self):
        for part in WRONG_PARTS:
            for at in (0, 1):
                for place in (1, 3):
                    plan = pair_plan()
                    plan[place][at] = part
                    assert_plan_refused(self, plan)
            for sign, here, there in product((0, 1), repeat=3):
                plan = pair_plan()
                plan[2][sign][here][there] = part
                assert_plan_refused(self, plan)

    def test_thirteen_rooms_and_more(self):
        for size in (13, 14, 24, 40):
            for signs in ("", "a", "ab"):
                assert_plan_refused(self, pair_plan(size, signs), TooMany)
        assert_plan_refused(self, plan_of(13, "a", 1, big_parts), TooMany)
        assert_machine(self, Machine(*pair_plan(12)), "ab", 12)

    def test_thirteen_rooms_where_something_else_is_wrong(self):
        for part in [(2, 4), (True, 1), None, [1, 2], (1, 0)]:
            plans = [pair_plan(13) for _ in range(3)]
            plans[0][1][12] = part
            plans[1][3][0] = part
            plans[2][2][1][12][12] = part
            for plan in plans:
                assert_plan_refused(self, plan)
        for signs in ["ba", "A", "abcdefg", 7, None]:
            assert_plan_refused(self, (signs, *pair_plan(13, "ab")[1:]))
        plans = [pair_plan(13) for _ in range(5)]
        plans[0][1].pop()
        plans[1][3].append(ONE)
        plans[2][2].pop()
        plans[3][2][1].pop()
        plans[4][2][0][12].append(ONE)
        for plan in plans:
            assert_plan_refused(self, plan)

    def test_what_was_refused_is_not_changed(self):
        plan = pair_plan()
        plan[2][1][1][1] = (2, 2)
        again = copied(plan)
        assert_plan_refused(self, plan)
        self.assertEqual(plan, again)


class OwnTest(unittest.TestCase):
    def test_fields_are_those_handed_in(self):
        for parts in (small_parts, big_parts):
            for size, signs in [(0, ""), (0, "ab"), (1, ""), (3, "ab"), (12, "abcdef")]:
                plan = plan_of(size, signs, 4, parts)
                again = copied(plan)
                machine = Machine(*plan)
                self.assertEqual(plan, again)
                self.assertEqual((machine.signs, machine.begins, machine.moves, machine.ends), again)
                self.assertEqual(plan_in(machine), again)

    def test_what_was_handed_in_changes(self):
        plan = plan_of(3, "ab", 5)
        again = copied(plan)
        machine = Machine(*plan)
        worths = {word: weight_by_ways(again, word) for word in words_of("ab", 3)}
        signs, begins, moves, ends = plan
        changes = [lambda: moves[1][2].__setitem__(0, (9, 1)), lambda: moves[0][1].clear(), lambda: moves[1].pop(),
                   lambda: moves.clear(), lambda: begins.__setitem__(1, (8, 1)), lambda: begins.pop(),
                   lambda: ends.__setitem__(0, (7, 1)), lambda: ends.append(ONE)]
        for change in changes:
            change()
            self.assertEqual(plan_in(machine), again)
            for word, worth in worths.items():
                assert_share(self, weight(machine, word), worth)
                assert_row(self, row_of(machine, word), row_by_steps(again, word))
        assert_share(self, summed(machine, 2), sum(worths[word] for word in words_of("ab", 2, 2)))

    def test_one_list_in_many_places(self):
        row = [(1, 2), (1, 3)]
        machine = Machine("ab", row, [[row, row], [row, row]], row)
        plan = copied(("ab", row, [[row, row], [row, row]], row))
        row[0] = (5, 1)
        self.assertEqual(plan_in(machine), plan)
        assert_share(self, weight(machine, "ab"), weight_by_ways(plan, "ab"))

    def test_told_rows_changed_by_the_asker(self):
        plan = plan_of(3, "ab", 6)
        machine = machine_of(plan)
        for word in words_of("ab", 2):
            told = row_of(machine, word)
            told[0] = (9, 1)
            told.append(ONE)
            row_of(machine, word).clear()
            assert_row(self, row_of(machine, word), row_by_ways(plan, word))
            assert_share(self, weight(machine, word), weight_by_ways(plan, word))
        self.assertEqual(plan_in(machine), plan)

    def test_nothing_asked_later_changes_what_was_told(self):
        plan = plan_of(4, "abc", 7)
        machine = machine_of(plan)
        told = {word: row_of(machine, word) for word in words_of("abc", 2)}
        summed(machine, 5)
        weight(machine, "abcabc")
        for word in reversed(words_of("abc", 3)):
            row_of(machine, word)
        for word, row in told.items():
            assert_row(self, row, row_by_ways(plan, word))

    def test_asked_again_behind_other_questions(self):
        plans = [plan_of(3, "ab", 8), plan_of(3, "ab", 9), plan_of(2, "bc", 9)]
        machines = [machine_of(plan) for plan in plans]
        first = [[weight(machine, word) for word in words_of(machine.signs, 3)] for machine in machines]
        for machine in machines:
            summed(machine, 3)
            row_of(machine, machine.signs)
            assert_refused(self, NoWord, weight, machine, "z")
        again = [[weight(machine, word) for word in reversed(words_of(machine.signs, 3))] for machine in machines]
        self.assertEqual(first, [worths[::-1] for worths in again])
        for plan, machine in zip(plans, machines):
            self.assertEqual(plan_in(machine), plan)
            self.assertEqual([summed(machine, 2)] * 3, [summed(machine, 2) for _ in range(3)])


if __name__ == "__main__":
    unittest.main()
