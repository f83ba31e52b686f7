"""neverlate.tables: points 81 to 86."""

import unittest
from random import Random

from neverlate.supply import least_supply
from neverlate.tables import (
    are_alike,
    are_rotations,
    common,
    common_length,
    dominates,
    first_shortage,
    joined,
    least_rotation,
    reduced,
    repeated,
    rotated,
    shortest,
    supply_bound,
)
from samples import random_table


def pairs(seed, count):
    """Pairs of tables that are often alike, rotations of each other, or of the same share."""
    random = Random(seed)
    for _ in range(count):
        one = random_table(random, slots=6, most=2)
        other = random_table(random, slots=6, most=2)
        if random.random() < 0.4:
            by = random.randint(0, 5)
            other = [one[(slot + by) % len(one)] for slot in range(len(one))]
        yield one * random.randint(1, 3), other * random.randint(1, 3)


def slots_of(table, count):
    """The capacities of the first slots."""
    return [table[slot % len(table)] for slot in range(count)]


def slow_least_supply(table, length):
    return min(sum(table[(start + slot) % len(table)] for slot in range(length)) for start in range(len(table)))


class Point81(unittest.TestCase):
    def test_repeated(self):
        self.assertEqual(repeated([1, 0, 2], 1), [1, 0, 2])
        self.assertEqual(repeated([1, 0, 2], 2), [1, 0, 2, 1, 0, 2])
        self.assertEqual(repeated((4,), 5), [4, 4, 4, 4, 4])

    def test_repeated_is_a_new_list(self):
        table = [1, 2]
        found = repeated(table, 1)
        found.append(3)
        self.assertEqual(table, [1, 2])

    def test_rotated_by_0_by_the_length_and_by_more(self):
        table = [1, 2, 3, 4]
        for by, expected in (
            (0, [1, 2, 3, 4]), (1, [2, 3, 4, 1]), (3, [4, 1, 2, 3]), (4, [1, 2, 3, 4]), (5, [2, 3, 4, 1]),
            (4 * 10 ** 50 + 2, [3, 4, 1, 2]),
        ):
            self.assertEqual(rotated(table, by), expected)
            self.assertEqual(rotated(tuple(table), by), expected)
        self.assertEqual(rotated([7], 9), [7])

    def test_rotated_is_a_new_list(self):
        table = [1, 2]
        rotated(table, 0).append(3)
        rotated(table, 2).append(3)
        self.assertEqual(table, [1, 2])


class Point82(unittest.TestCase):
    def test_without_a_common_divisor(self):
        self.assertEqual(common_length([1, 2], [3, 4, 5]), 6)
        self.assertEqual(common([1, 2], (3, 4, 5)), ([1, 2, 1, 2, 1, 2], [3, 4, 5, 3, 4, 5]))

    def test_one_length_divides_the_other(self):
        self.assertEqual(common_length([1, 2], [3, 4, 5, 6]), 4)
        self.assertEqual(common([1, 2], [3, 4, 5, 6]), ([1, 2, 1, 2], [3, 4, 5, 6]))
        self.assertEqual(common((3, 4, 5, 6), (1,)), ([3, 4, 5, 6], [1, 1, 1, 1]))
        self.assertEqual(common([1, 2], [3, 4]), ([1, 2], [3, 4]))

    def test_a_common_divisor(self):
        self.assertEqual(common_length([0] * 4, [0] * 6), 12)
        self.assertEqual(common_length([0] * 1001, [0] * 77), 1001)
        self.assertEqual(common_length([0] * 13, [0] * 77), 1001)

    def test_common_is_a_tuple_of_new_lists(self):
        one, other = [1, 2], [3, 4]
        found = common(one, other)
        self.assertIsInstance(found, tuple)
        found[0].append(5)
        found[1].append(5)
        self.assertEqual((one, other), ([1, 2], [3, 4]))

    def test_joined(self):
        self.assertEqual(joined([1, 2], (3, 4, 5)), [4, 6, 6, 5, 5, 7])
        self.assertEqual(joined([0], [0]), [0])

    def test_sums_above_the_greatest_capacity(self):
        self.assertEqual(joined([1000000, 1], [1000000]), [2000000, 1000001])

    def test_reduced(self):
        self.assertEqual(reduced([5, 6], (3, 4, 5)), [2, 2, 0, 3, 1, 1])
        self.assertEqual(reduced([5, 6], [5, 6]), [0, 0])

    def test_no_capacity_becomes_less_than_0(self):
        self.assertEqual(reduced([1, 5, 0], [2]), [0, 3, 0])
        self.assertEqual(reduced([0], [1000000, 0, 7]), [0, 0, 0])

    def test_against_slots(self):
        for one, other in pairs(82, 200):
            count = next(n for n in range(1, 999) if n % len(one) == 0 and n % len(other) == 0)
            first, second = slots_of(one, count), slots_of(other, count)
            self.assertEqual(common_length(one, other), count)
            self.assertEqual(common(one, other), (first, second))
            self.assertEqual(joined(one, other), [a + b for a, b in zip(first, second)])
            self.assertEqual(reduced(one, other), [max(a - b, 0) for a, b in zip(first, second)])


class Point83(unittest.TestCase):
    def test_alike_with_different_lengths(self):
        self.assertIs(are_alike([1, 0, 1, 0], [1, 0]), True)
        self.assertIs(are_alike([1, 0, 1, 0], (1, 0, 1, 0, 1, 0)), True)
        self.assertIs(are_alike([2], [2, 2, 2]), True)
        self.assertIs(are_alike([2, 2], [2, 2, 2]), True)

    def test_not_alike(self):
        self.assertIs(are_alike([1, 0], [0, 1]), False)
        self.assertIs(are_alike([1, 0, 1], [1, 0]), False)
        self.assertIs(are_alike([1, 0, 1, 0], [1, 0, 1, 0, 1]), False)
        self.assertIs(are_alike([1], [1, 2]), False)

    def test_shortest(self):
        for table, expected in (
            ([1, 0, 1, 0], [1, 0]), ([1, 0, 0, 1], [1, 0, 0, 1]), ([5], [5]), ((5, 5, 5), [5]),
            ([1, 2, 1, 2, 1], [1, 2, 1, 2, 1]), ([1, 1, 2, 1, 1, 2], [1, 1, 2]), ([0] * 1001, [0]),
            ([1, 2, 1, 1, 2, 1, 1, 2, 1, 1, 2, 1], [1, 2, 1]), ([1] * 1000 + [2], [1] * 1000 + [2]),
        ):
            self.assertEqual(shortest(table), expected)

    def test_shortest_is_a_new_list(self):
        table = [1, 2]
        shortest(table).append(3)
        self.assertEqual(table, [1, 2])

    def test_rotations(self):
        self.assertIs(are_rotations([1, 2, 3], [3, 1, 2]), True)
        self.assertIs(are_rotations([1, 2, 3], (1, 2, 3)), True)
        self.assertIs(are_rotations([1, 2, 3], [3, 2, 1]), False)
        self.assertIs(are_rotations([1, 1, 2, 2], [1, 2, 1, 2]), False)

    def test_rotations_of_repeated_tables(self):
        self.assertIs(are_rotations([1, 0, 1, 0], [0, 1]), True)
        self.assertIs(are_rotations([0, 1], (1, 0, 1, 0, 1, 0)), True)
        self.assertIs(are_rotations([1, 2, 3, 1, 2, 3], [2, 3, 1]), True)
        self.assertIs(are_rotations([0, 1], [1, 0, 1]), False)

    def test_tables_of_zeros(self):
        self.assertIs(are_alike([0], [0, 0, 0]), True)
        self.assertIs(are_rotations([0, 0], [0, 0, 0]), True)
        self.assertEqual(shortest([0, 0, 0, 0]), [0])
        self.assertIs(are_rotations([0, 0], [0, 1]), False)

    def test_against_slots(self):
        for one, other in pairs(83, 300):
            count = len(one) * max(len(one), len(other))
            self.assertIs(are_alike(one, other), slots_of(one, count) == slots_of(other, count))
            turned = [one[by:] + one[:by] for by in range(len(one))]
            expected = any(slots_of(table, count) == slots_of(other, count) for table in turned)
            self.assertIs(are_rotations(one, other), expected)
            self.assertIs(are_rotations(other, one), expected)
            lengths = [n for n in range(1, len(one) + 1) if slots_of(one[:n], count) == slots_of(one, count)]
            self.assertEqual(shortest(one), one[:lengths[0]])


class Point84(unittest.TestCase):
    def test_the_first_of_all_rotations(self):
        for table, expected in (
            ([1, 2, 3], 0), ([3, 1, 2], 1), ([2, 3, 1], 2), ((2, 1, 2, 0), 3), ([5], 0), ([1, 0, 0, 1], 1),
            ([1, 0, 1, 0, 0], 3),
        ):
            self.assertEqual(least_rotation(table), expected)

    def test_the_least_of_several_numbers(self):
        self.assertEqual(least_rotation([1, 0, 1, 0]), 1)
        self.assertEqual(least_rotation([2, 1, 0, 2, 1, 0]), 2)
        self.assertEqual(least_rotation([0, 0, 0]), 0)

    def test_a_long_table(self):
        self.assertEqual(least_rotation([1] * 500 + [0] + [1] * 500), 500)

    def test_against_all_rotations(self):
        for one, _ in pairs(84, 200):
            turned = [one[by:] + one[:by] for by in range(len(one))]
            expected = [by for by, table in enumerate(turned) if table == min(turned)]
            self.assertEqual(least_rotation(one), expected[0])


class Point85(unittest.TestCase):
    def test_examples(self):
        self.assertIsNone(first_shortage([1, 0, 1, 0], [1, 1, 0, 0]))
        self.assertEqual(first_shortage([1, 1, 0, 0], [1, 0, 1, 0]), 2)

    def test_a_shortage_at_the_first_length(self):
        self.assertEqual(first_shortage([0], [1]), 1)
        self.assertEqual(first_shortage([9, 0], [1]), 1)

    def test_a_shortage_just_at_the_length_of_the_longer_table(self):
        # It is never behind it: what `other` offers at least in a whole round, `one` offers there, too.
        self.assertEqual(first_shortage([5, 5], [5, 5, 5, 5, 5, 6]), 6)
        self.assertEqual(first_shortage([1] * 7, [1] * 10 + [2]), 11)
        self.assertEqual(first_shortage([1], [1] * 1000 + [2]), 1001)

    def test_a_shortage_within_the_longer_table_behind_the_shorter_one(self):
        self.assertEqual(first_shortage([2, 1], [1, 2, 2, 2]), 3)
        self.assertEqual(first_shortage([2, 1], [2, 1, 2, 1, 2, 2]), 5)

    def test_tables_of_the_same_share(self):
        self.assertIsNone(first_shortage([1], [1, 1, 1]))
        self.assertIsNone(first_shortage([1], [2, 0]))
        self.assertEqual(first_shortage([2, 0], [1]), 1)
        self.assertIsNone(first_shortage([0, 1, 2], [2, 1, 0]) or first_shortage([2, 1, 0], [1, 0, 2]))

    def test_tables_of_different_shares(self):
        self.assertIsNone(first_shortage([2, 1], [0, 1, 1]))
        self.assertEqual(first_shortage([0, 1, 1], [2, 1]), 1)
        self.assertEqual(first_shortage([0, 9], [1, 1, 1]), 1)

    def test_tables_of_zeros(self):
        self.assertIsNone(first_shortage([0, 0], [0, 0, 0]))
        self.assertIsNone(first_shortage((0, 1), (0,)))
        self.assertEqual(first_shortage((0,), (0, 1)), 2)

    def test_dominates(self):
        self.assertIs(dominates([1, 0, 1, 0], [1, 1, 0, 0]), True)
        self.assertIs(dominates([1, 1, 0, 0], [1, 0, 1, 0]), False)
        self.assertIs(dominates([1, 1, 0], [0, 1, 1, 1]), False)
        self.assertIs(dominates((3,), [3, 3]), True)

    def test_against_all_lengths(self):
        found = set()
        for one, other in pairs(85, 300):
            count = 3 * len(one) * len(other)
            lengths = [n for n in range(min(count, 150)) if least_supply(one, n) < least_supply(other, n)]
            self.assertEqual(first_shortage(one, other), lengths[0] if lengths else None)
            self.assertIs(dominates(one, other), not lengths)
            found.add(lengths[0] if lengths else None)
        self.assertGreater(len(found), 4)


class Point86(unittest.TestCase):
    def test_example(self):
        self.assertEqual(supply_bound([1, 1, 0, 0]), (2, 4, 4))

    def test_a_lack_of_0(self):
        self.assertEqual(supply_bound([7]), (7, 0, 1))
        self.assertEqual(supply_bound([3, 3, 3]), (9, 0, 3))
        self.assertEqual(supply_bound((0, 0)), (0, 0, 2))

    def test_one_slot_without_units(self):
        self.assertEqual(supply_bound([0, 1]), (1, 1, 2))
        self.assertEqual(supply_bound([1000000, 0]), (1000000, 1000000, 2))

    def test_against_all_lengths(self):
        for one, _ in pairs(86, 200):
            top, lack, bottom = supply_bound(one)
            self.assertEqual((top, bottom), (sum(one), len(one)))
            lacks = [top * n - bottom * slow_least_supply(one, n) for n in range(3 * len(one) + 1)]
            self.assertEqual(lack, max([0] + lacks))


if __name__ == "__main__":
    unittest.main()
