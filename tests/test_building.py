"""Point 9, and point 1 as to machines built from machines."""

import unittest
from fractions import Fraction
from itertools import product

from tests.things import (assert_machine, assert_refused, assert_share, big_parts, fraction, machine_of, part_of,
                          plan_in, plan_of, random_machine, rare_parts, small_parts, weight_by_steps, words_of)
from weighwords.building import added, beside, joined, scaled, turned
from weighwords.errors import OtherSigns, TooMany
from weighwords.machines import Machine, rooms, row_of, summed, weight

NOUGHT, ONE = (0, 1), (1, 1)

KINDS_OF_PARTS = (small_parts, rare_parts, big_parts)

SIGNS = [("", 0), ("a", 5), ("ab", 3), ("bdz", 2), ("abcdef", 1)]


def by_sums(one, other, word):
    return weight_by_steps(one, word) + weight_by_steps(other, word)


def by_products(one, other, word):
    return weight_by_steps(one, word) * weight_by_steps(other, word)


def by_partings(one, other, word):
    return sum(weight_by_steps(one, word[:at]) * weight_by_steps(other, word[at:]) for at in range(len(word) + 1))


def sum_of(one, other):
    return one + other


def product_of(one, other):
    return one * other


# Each way to build a machine from two: how words weigh by it, and how many rooms it has.
WAYS = [(added, by_sums, sum_of), (beside, by_products, product_of), (joined, by_partings, sum_of)]


def short_words(size, signs, most, parts):
    """Words that fractions weigh in good time, though there be great numbers in many rooms."""
    return words_of(signs, min(most, 1 if parts is big_parts and size > 4 else 3))


class TwoMachinesTest(unittest.TestCase):
    def hold(self, way, one, other, words):
        build, worth_by, rooms_by = way
        first, second = machine_of(one), machine_of(other)
        built = build(first, second)
        assert_machine(self, built, one[0], rooms_by(len(one[1]), len(other[1])))
        for word in words:
            worth = worth_by(one, other, word)
            assert_share(self, weight(built, word), worth)
        self.assertEqual((plan_in(first), plan_in(second)), (one, other))
        return built

    def test_written_out(self):
        # The one weighs 1, 2, 4 .. by so many signs a, the other 1, 3, 9 ..
        one = Machine("a", [ONE], [[[(2, 1)]]], [ONE])
        other = Machine("a", [ONE], [[[(3, 1)]]], [ONE])
        words = ["", "a", "aa", "aaa"]
        self.assertEqual([weight(added(one, other), word) for word in words], [(2, 1), (5, 1), (13, 1), (35, 1)])
        self.assertEqual([weight(beside(one, other), word) for word in words], [ONE, (6, 1), (36, 1), (216, 1)])
        self.assertEqual([weight(joined(one, other), word) for word in words], [ONE, (5, 1), (19, 1), (65, 1)])
        self.assertEqual([weight(scaled(one, (-1, 2)), word) for word in words],
                         [(-1, 2), (-1, 1), (-2, 1), (-4, 1)])

    def test_each_small_number_of_rooms(self):
        for way in WAYS:
            for seed, (first, second) in enumerate(product(range(4), repeat=2)):
                for signs, most in SIGNS:
                    for parts in KINDS_OF_PARTS:
                        one, other = plan_of(first, signs, seed, parts), plan_of(second, signs, seed + 50, parts)
                        self.hold(way, one, other, words_of(signs, most))

    def test_just_twelve_rooms(self):
        pairs = {added: [(12, 0), (0, 12), (6, 6), (11, 1), (1, 11), (5, 7)],
                 beside: [(12, 1), (1, 12), (6, 2), (2, 6), (3, 4), (4, 3)]}
        pairs[joined] = pairs[added]
        for way in WAYS:
            for first, second in pairs[way[0]]:
                for parts in (small_parts, rare_parts):
                    one, other = plan_of(first, "ab", 1, parts), plan_of(second, "ab", 2, parts)
                    built = self.hold(way, one, other, words_of("ab", 2) + ["abbab", "bbbaa"])
                    self.assertEqual(rooms(built), 12)

    def test_twelve_rooms_with_great_numbers(self):
        for way in WAYS:
            first, second = (3, 4) if way[0] is beside else (5, 7)
            self.hold(way, plan_of(first, "abcdef", 1, big_parts), plan_of(second, "abcdef", 2, big_parts),
                      ["", "a", "f", "cd"])

    def test_no_rooms_beside_any(self):
        empty = Machine("ab", [], [[], []], [])
        for size in (0, 1, 5, 12):
            machine = random_machine(size, "ab", size)
            for pair in ((empty, machine), (machine, empty)):
                self.assertEqual([rooms(build(*pair)) for build in (added, beside, joined)], [size, 0, size])
                for word in words_of("ab", 3):
                    self.assertEqual(weight(added(*pair), word), weight(machine, word))
                    self.assertEqual(weight(beside(*pair), word), NOUGHT)
                    self.assertEqual(weight(joined(*pair), word), NOUGHT)

    def test_the_first_and_the_second_part(self):
        # The one weighs just the words a .. a, the other just b .. b: joined, those where each a is ahead of each b.
        one = Machine("ab", [(2, 1)], [[[ONE]], [[NOUGHT]]], [ONE])
        other = Machine("ab", [(3, 1)], [[[NOUGHT]], [[ONE]]], [ONE])
        for word in words_of("ab", 5):
            ways = sum(1 for at in range(len(word) + 1) if "b" not in word[:at] and "a" not in word[at:])
            assert_share(self, weight(joined(one, other), word), 6 * ways)

    def test_only_the_empty_parts(self):
        # Each weighs the empty word alone, so joined they do, too.
        one = Machine("ab", [(5, 2)], [[[NOUGHT]], [[NOUGHT]]], [ONE])
        other = Machine("ab", [ONE], [[[NOUGHT]], [[NOUGHT]]], [(1, 3)])
        for word in words_of("ab", 3):
            assert_share(self, weight(joined(one, other), word), Fraction(5, 6) if word == "" else 0)

    def test_a_machine_with_itself(self):
        for parts in KINDS_OF_PARTS:
            plan = plan_of(3, "ab", 21, parts)
            machine = machine_of(plan)
            for build, worth_by, rooms_by in WAYS:
                built = build(machine, machine)
                self.assertEqual(rooms(built), rooms_by(3, 3))
                for word in words_of("ab", 3):
                    assert_share(self, weight(built, word), worth_by(plan, plan, word))
            self.assertEqual(plan_in(machine), plan)

    def test_the_summed_of_those_added(self):
        one, other = random_machine(4, "abc", 1), random_machine(5, "abc", 2)
        for many in (0, 1, 5, 60):
            both = fraction(summed(one, many)) + fraction(summed(other, many))
            assert_share(self, summed(added(one, other), many), both)

    def test_built_from_what_was_built(self):
        one, other = random_machine(2, "ab", 3, big_parts), random_machine(1, "ab", 4, big_parts)
        built = joined(added(one, other), beside(turned(one), scaled(other, (-7, 3))))
        first, second = plan_in(added(one, other)), plan_in(beside(turned(one), scaled(other, (-7, 3))))
        for word in words_of("ab", 3):
            assert_share(self, weight(built, word), by_partings(first, second, word))
        again = added(beside(built, other), turned(built))
        for word in words_of("ab", 3):
            worth = fraction(weight(built, word)) * fraction(weight(other, word))
            assert_share(self, weight(again, word), worth + fraction(weight(built, word[::-1])))
        self.assertEqual(rooms(again), 10)


class RefusalTest(unittest.TestCase):
    def test_other_signs(self):
        for signs, others in [("", "a"), ("a", "b"), ("ab", "a"), ("ab", "abc"), ("ab", "b"), ("ab", "ac"),
                              ("abcdef", "abcdeg"), ("abcdef", "bcdef"), ("abcdef", "")]:
            for first, second in [(0, 0), (1, 1), (0, 3), (2, 3), (6, 6), (12, 12), (12, 1), (7, 6)]:
                one, other = random_machine(first, signs, 1), random_machine(second, others, 2)
                for build in (added, beside, joined):
                    assert_refused(self, OtherSigns, build, one, other)
                    assert_refused(self, OtherSigns, build, other, one)

    def test_too_many_rooms(self):
        for signs in ("", "a", "abcdef"):
            machines = [random_machine(size, signs, 3, rare_parts) for size in range(13)]
            for one, other in product(machines, repeat=2):
                if rooms(one) + rooms(other) > 12:
                    assert_refused(self, TooMany, added, one, other)
                    assert_refused(self, TooMany, joined, one, other)
                if rooms(one) * rooms(other) > 12:
                    assert_refused(self, TooMany, beside, one, other)

    def test_each_number_of_rooms_up_to_twelve(self):
        machines = [random_machine(size, "a", 4, rare_parts) for size in range(13)]
        for one, other in product(machines, repeat=2):
            for build, worth_by, rooms_by in WAYS:
                many = rooms_by(rooms(one), rooms(other))
                if many <= 12:
                    built = build(one, other)
                    self.assertEqual(rooms(built), many)
                    for word in ("", "a", "aa"):
                        assert_share(self, weight(built, word), worth_by(plan_in(one), plan_in(other), word))

    def test_a_refusal_changes_nothing(self):
        plans = [plan_of(7, "ab", 1), plan_of(6, "ab", 2), plan_of(6, "ac", 3)]
        machines = [machine_of(plan) for plan in plans]
        for build in (added, beside, joined):
            assert_refused(self, TooMany, build, machines[0], machines[1])
            assert_refused(self, OtherSigns, build, machines[1], machines[2])
        self.assertEqual([plan_in(machine) for machine in machines], plans)


class OneMachineTest(unittest.TestCase):
    def test_scaled(self):
        shares = [NOUGHT, ONE, (-1, 1), (2, 3), (-7, 5)] + small_parts(5, 2) + big_parts(6, 2)
        for seed, (size, (signs, most)) in enumerate(product((0, 1, 3, 12), SIGNS)):
            for parts in KINDS_OF_PARTS:
                plan = plan_of(size, signs, seed, parts)
                machine = machine_of(plan)
                words = short_words(size, signs, most, parts)
                worths = [weight_by_steps(plan, word) for word in words]
                for part in shares:
                    built = scaled(machine, part)
                    assert_machine(self, built, signs, size)
                    for word, worth in zip(words, worths):
                        assert_share(self, weight(built, word), worth * fraction(part))
                self.assertEqual(plan_in(machine), plan)

    def test_scaled_and_back(self):
        machine = random_machine(4, "ab", 8, big_parts)
        part = part_of(Fraction(*big_parts(9, 1)[0]))
        back = part_of(1 / fraction(part))
        for word in words_of("ab", 3):
            self.assertEqual(weight(scaled(scaled(machine, part), back), word), weight(machine, word))

    def test_turned(self):
        for seed, (size, (signs, most)) in enumerate(product((0, 1, 2, 4, 12), SIGNS)):
            for parts in KINDS_OF_PARTS:
                plan = plan_of(size, signs, seed, parts)
                machine = machine_of(plan)
                built = turned(machine)
                assert_machine(self, built, signs, size)
                for word in short_words(size, signs, most, parts):
                    assert_share(self, weight(built, word), weight_by_steps(plan, word[::-1]))
                self.assertEqual(plan_in(machine), plan)

    def test_turned_twice(self):
        for size in (0, 1, 5):
            machine = random_machine(size, "abc", size)
            again = turned(turned(machine))
            for word in words_of("abc", 3):
                self.assertEqual(weight(again, word), weight(machine, word))
            self.assertEqual(rooms(again), size)

    def test_turned_without_a_sign_of_its_own_order(self):
        machine = Machine("ab", [ONE, NOUGHT], [[[NOUGHT, ONE], [NOUGHT, NOUGHT]], [[NOUGHT, NOUGHT], [NOUGHT, ONE]]],
                          [NOUGHT, ONE])
        self.assertEqual([weight(machine, word) for word in ("ab", "ba", "abb", "bba")], [ONE, NOUGHT, ONE, NOUGHT])
        self.assertEqual([weight(turned(machine), word) for word in ("ab", "ba", "abb", "bba")],
                         [NOUGHT, ONE, NOUGHT, ONE])


class OwnTest(unittest.TestCase):
    """No list of a machine told is one of the machines that were handed in."""

    def lists_of(self, machine):
        rows = [row for table in machine.moves for row in table]
        return [machine.begins, machine.ends, machine.moves, *machine.moves, *rows]

    def test_lists_of_their_own(self):
        one, other = random_machine(2, "ab", 1), random_machine(3, "ab", 2)
        empty = Machine("ab", [], [[], []], [])
        built = [build(*pair) for build in (added, beside, joined)
                 for pair in ((one, other), (one, one), (one, empty), (empty, one))]
        built.extend([scaled(one, ONE), turned(one), scaled(empty, ONE), turned(empty), turned(scaled(one, NOUGHT))])
        held = [id(row) for machine in (one, other, empty) for row in self.lists_of(machine)]
        for machine in built:
            own = [id(row) for row in self.lists_of(machine)]
            self.assertEqual(len(set(own)), len(own))
            self.assertFalse(set(own) & set(held))

    def test_what_is_built_later_changes_nothing(self):
        one, other = random_machine(2, "ab", 3), random_machine(3, "ab", 4)
        built = [added(one, other), beside(one, other), joined(one, other), scaled(one, (2, 3)), turned(other)]
        plans = [plan_in(machine) for machine in built]
        for machine in built:
            scaled(machine, NOUGHT)
            turned(machine)
            added(machine, one)
            row_of(machine, "ab").clear()
        self.assertEqual([plan_in(machine) for machine in built], plans)


if __name__ == "__main__":
    unittest.main()
