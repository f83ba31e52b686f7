"""neverlate.standin: points 105 to 112."""

import unittest
from random import Random

from neverlate.circuits import circuit_mean, circuits, share
from neverlate.demand import demand, rows
from neverlate.errors import InvalidTable, InvalidTask, Undecided
from neverlate.misses import check_miss, first_miss, is_overfull
from neverlate.notation import format_system
from neverlate.standin import (
    Part, check_stand_in, first_excess, lasting_kinds, may_stand, part_at, part_system, splittings, stand_in_step,
)
from neverlate.tasks import System, Task
from neverlate.verdicts import is_never_late
from samples import engine, engine_circle, lone, random_table, random_task


def fields(part):
    return (part.length, part.cost, part.table)


def slow_excess(one, other, horizon):
    """Point 106, word by word."""
    for length in range(horizon + 1):
        if demand(one, length) > demand(other, length):
            return length
    return None


def reached(task, kind_name):
    """The kinds to which a path leads from this kind, the empty path too."""
    found = {kind_name}
    while True:
        more = found | {target for source, target, _ in task.ways if source in found}
        if more == found:
            return found
        found = more


def slow_lasting(task):
    """Point 107, word by word."""
    best = [circuit for circuit in circuits(task) if circuit_mean(task, circuit) == share(task)]
    sources = {task.ways[way][0] for circuit in best for way in circuit}
    if not best:
        return list(range(len(task.kinds)))
    return [number for number, kind in enumerate(task.kinds) if reached(task, kind[0]) & sources]


def broken(one, other, step, horizon):
    """The conditions of point 108 that do not hold, word by word. The third one has two parts, as has the fifth."""
    d1 = max([way[2] for way in one.ways], default=0)
    d2 = max([way[2] for way in other.ways], default=0)
    e1 = max(kind[2] for kind in one.kinds)
    e2 = max(kind[2] for kind in other.kinds)
    if step < 1 or max(e1 + d1, e2 + d2) + step > horizon:
        return ["room"]
    first, second = rows(one, horizon), rows(other, horizon)
    lasting = slow_lasting(other)
    g = second[horizon][lasting[0]] - second[horizon - step][lasting[0]] if d2 else 0
    grown = [
        (kind, second[horizon - j][kind] - second[horizon - j - step][kind])
        for j in range(d2) for kind in range(len(other.kinds))
    ]
    own = [
        first[horizon - j][kind] - first[horizon - j - step][kind]
        for j in range(d1) for kind in range(len(one.kinds))
    ]
    pairs = []
    for length in range(horizon - step + 1, horizon + 1):
        for kind in lasting:
            numbers = {False: [0], True: [0]}
            for target, distance in other.ways_from(other.kinds[kind][0]):
                if distance <= length:
                    place = other.kind_number(target)
                    numbers[place in lasting].append(second[length - distance][place])
            pairs.append((max(numbers[False] + numbers[True]), max(numbers[True])))
    holds = {
        "excess": slow_excess(one, other, horizon) is None,
        "other": all(number <= g for _, number in grown),
        "just": all(number >= g for kind, number in grown if kind in lasting),
        "one": all(number <= g for number in own),
        "same": all(every == best for every, best in pairs),
        "not 0": g == 0 or all(every != 0 for every, _ in pairs),
        "led": all(
            max(first[length]) <= max(second[length][kind] for kind in lasting)
            for length in range(horizon - step + 1, horizon + 1)
        ),
    }
    return [name for name, value in holds.items() if not value]


def slow_step(one, other, horizon):
    for step in range(horizon + 1):
        if not broken(one, other, step, horizon):
            return step
    return None


def slow_splitting(task, length):
    """Point 110, word by word: all lists of lengths that add up to the length."""
    if length == 0:
        return 0
    return max(demand(task, part) + slow_splitting(task, length - part) for part in range(1, length + 1))


def smaller(random, task):
    """A task that asks for no more than this one, and often for less."""
    return Task(
        "one",
        kinds=[(name, max(1, cost - random.randint(0, 2)), deadline + random.randint(0, 2))
               for name, cost, deadline in task.kinds],
        ways=[(source, target, distance + random.randint(0, 1)) for source, target, distance in task.ways],
    )


def random_pair(random):
    other = random_task(random, "other", most=random.choice((3, 6)))
    one = smaller(random, other) if random.random() < 0.5 else random_task(random, "one")
    return one, other


ONE = lone("one", 3, 4, 4)
OTHER = lone("other", 3, 4, 5)
# Each pair of tasks breaks one condition of point 108 alone, with this step and this horizon.
ALONE = {
    "excess": (lone("one", 1, 4), lone("other", 4, 5), 6, 13),
    "other": (lone("one", 1, 4), lone("other", 2, 4, 3), 1, 20),
    "just": (lone("one", 3, 3), lone("other", 4, 2, 5), 4, 15),
    "one": (lone("one", 1, 3, 3), lone("other", 5, 3), 4, 12),
    "same": (
        lone("one", 1, 1),
        Task(
            "other", kinds=[("a", 1, 1), ("b", 10, 1), ("c", 12, 1)],
            ways=[("a", "a", 1), ("b", "c", 1), ("a", "b", 1)],
        ),
        1, 3,
    ),
    "led": (
        Task("one", kinds=[("a", 5, 5), ("b", 1, 5)], ways=[("b", "b", 5)]),
        Task("other", kinds=[("a", 5, 5), ("b", 1, 3)], ways=[("b", "b", 4)]),
        8, 18,
    ),
}


class StandIn(unittest.TestCase):
    def asked(self, one, other, horizon):
        """What may_stand answers: None, the fields of the part, or "undecided"."""
        try:
            part = may_stand(one, other, horizon=horizon)
        except Undecided as error:
            self.assertEqual(error.horizon, horizon)
            return "undecided"
        return None if part is None else fields(part)


class Point105(StandIn):
    def test_a_task_in_its_own_place(self):
        for task in (ONE, engine(), engine_circle(), lone("t", 5, 3)):
            self.assertIsNone(may_stand(task, task, horizon=60))

    def test_a_smaller_task(self):
        self.assertIsNone(may_stand(OTHER, ONE, horizon=60))
        self.assertIsNone(may_stand(lone("one", 2, 4, 4), ONE, horizon=60))
        self.assertIsNone(may_stand(lone("one", 3, 5, 4), ONE, horizon=60))
        self.assertIsNone(may_stand(lone("one", 3, 4), ONE, horizon=60))

    def test_a_task_in_the_place_of_another_one_makes_no_job_late(self):
        random = Random(105)
        count = 0
        for _ in range(400):
            one, other = random_pair(random)
            if self.asked(one, other, 30) is not None:
                continue
            further = [random_task(random, "further")] * random.randint(0, 1)
            table = random_table(random)
            if first_overfull_at(System([other] + further, table=table)) is None:
                self.assertIsNone(first_overfull_at(System([one] + further, table=table)))
                count += 1
        self.assertGreater(count, 20)


def first_overfull_at(system):
    """The least length of an overfull window that ends at 40 or earlier, or None."""
    for length in range(1, 41):
        for start in range(41 - length):
            if is_overfull(system, start=start, length=length):
                return length
    return None


class Point106(StandIn):
    def test_just_at_the_horizon_and_behind_it(self):
        self.assertEqual(first_excess(ONE, OTHER, horizon=9), 8)
        self.assertEqual(first_excess(ONE, OTHER, horizon=8), 8)
        self.assertIsNone(first_excess(ONE, OTHER, horizon=7))

    def test_no_excess(self):
        self.assertIsNone(first_excess(OTHER, ONE, horizon=200))
        self.assertIsNone(first_excess(ONE, ONE, horizon=200))

    def test_an_excess_that_goes_away(self):
        # The one job comes first, the other one is greater.
        self.assertEqual(first_excess(lone("one", 1, 2), lone("other", 9, 3), horizon=50), 2)
        self.assertEqual(first_excess(lone("one", 1, 1), lone("other", 9, 2), horizon=1), 1)

    def test_the_names_of_kinds_have_no_effect(self):
        self.assertIsNone(first_excess(
            Task("one", kinds=[("x", 1, 2)], ways=[("x", "x", 3)]),
            Task("other", kinds=[("y", 1, 2)], ways=[("y", "y", 3)]), horizon=30,
        ))

    def test_against_the_words(self):
        random = Random(106)
        seen = {}
        for _ in range(300):
            one, other = random_pair(random)
            horizon = random.randint(1, 20)
            found = first_excess(one, other, horizon=horizon)
            self.assertEqual(found, slow_excess(one, other, horizon))
            seen[found if found is None else min(found, 5), found == horizon] = True
        self.assertGreater(len(seen), 7)


class Point107(StandIn):
    def test_without_circuits_and_without_ways(self):
        self.assertEqual(lasting_kinds(lone("t", 1, 2)), [0])
        self.assertEqual(lasting_kinds(engine()), [0, 1])
        self.assertEqual(lasting_kinds(engine([])), [0, 1])

    def test_paths_to_a_circuit_of_the_share(self):
        # d -> c -> (a -> b -> a), and from b to e; f stands alone.
        task = Task(
            "t", kinds=[(name, 1, 1) for name in "abcdef"],
            ways=[("d", "c", 9), ("c", "a", 9), ("a", "b", 1), ("b", "a", 1), ("b", "e", 1)],
        )
        self.assertEqual(lasting_kinds(task), [0, 1, 2, 3])

    def test_a_circuit_of_a_smaller_mean(self):
        task = Task(
            "t", kinds=[("a", 1, 1), ("b", 1, 1), ("c", 1, 1)],
            ways=[("a", "a", 3), ("b", "b", 2), ("a", "b", 9), ("c", "a", 1)],
        )
        self.assertEqual(lasting_kinds(task), [0, 1, 2])
        task = Task(
            "t", kinds=[("a", 1, 1), ("b", 1, 1), ("c", 1, 1)],
            ways=[("a", "a", 3), ("b", "b", 2), ("b", "a", 9), ("c", "a", 1)],
        )
        self.assertEqual(lasting_kinds(task), [1])

    def test_several_circuits_of_the_share(self):
        task = Task(
            "t", kinds=[("a", 2, 1), ("b", 1, 1), ("c", 1, 1), ("d", 1, 1)],
            ways=[("a", "a", 4), ("c", "c", 2), ("b", "b", 3), ("d", "b", 1)],
        )
        self.assertEqual(lasting_kinds(task), [0, 2])

    def test_against_the_words(self):
        random = Random(107)
        seen = {}
        for _ in range(400):
            task = random_task(random, kinds=4, ways=6)
            found = lasting_kinds(task)
            self.assertEqual(found, slow_lasting(task))
            seen[len(task.kinds) - len(found), found[0] > 0, circuits(task) == []] = True
        self.assertGreater(len(seen), 7)


class Point108(StandIn):
    def test_each_condition_broken_alone(self):
        for name, (one, other, step, horizon) in ALONE.items():
            with self.subTest(name):
                self.assertEqual(broken(one, other, step, horizon), [name])
                self.assertIs(check_stand_in(one, other, step=step, horizon=horizon), False)

    def test_a_growth_behind_which_nothing_comes(self):
        # This condition is never broken alone: a kind behind which nothing comes does not grow.
        other = Task("other", kinds=[("a", 1, 1), ("b", 1, 1), ("c", 1, 1)], ways=[("a", "b", 2), ("b", "c", 2)])
        self.assertEqual(broken(lone("one", 1, 1), other, 1, 5), ["just", "not 0"])
        self.assertIs(check_stand_in(lone("one", 1, 1), other, step=1, horizon=5), False)

    def test_the_lengths_that_count_begin_behind_the_horizon_minus_the_step(self):
        # Up to the length 6 the lasting kind asks for less than 3 units, from 7 on it does not.
        one, other = lone("one", 3, 2), Task("other", kinds=[("a", 3, 1), ("b", 1, 3)], ways=[("b", "b", 2)])
        self.assertEqual([max(row) for row in rows(other, 8)][6:], [3, 3, 3])
        self.assertEqual([row[1] for row in rows(other, 8)][6:], [2, 3, 3])
        self.assertIs(check_stand_in(one, other, step=8, horizon=14), True)
        self.assertEqual(broken(one, other, 8, 13), ["led"])
        self.assertIs(check_stand_in(one, other, step=8, horizon=13), False)
        self.assertIs(check_stand_in(one, other, step=6, horizon=12), True)

    def test_a_step_one_greater_than_what_the_horizon_allows(self):
        # Nothing grows here, so each step passes for which there is room.
        for one, other in (
            (lone("one", 1, 5), lone("other", 1, 5)),
            (lone("one", 1, 5), lone("other", 1, 4)),
            (lone("one", 1, 4), lone("other", 2, 4)),
        ):
            for step in range(1, 16):
                fits = step <= 20 - max(one.latest_deadline, other.latest_deadline)
                self.assertIs(check_stand_in(one, other, step=step, horizon=20), fits)

    def test_the_deadlines_and_distances_of_both_tasks_need_room(self):
        one, other = lone("one", 1, 2, 4), lone("other", 1, 2, 4)
        self.assertIs(check_stand_in(one, other, step=4, horizon=10), True)
        self.assertIs(check_stand_in(one, other, step=4, horizon=9), False)
        self.assertIs(check_stand_in(lone("one", 1, 5, 4), other, step=4, horizon=13), True)
        self.assertIs(check_stand_in(lone("one", 1, 5, 4), other, step=4, horizon=12), False)
        # The room is that of one task, not the deadline of the one and the distance of the other.
        self.assertIs(check_stand_in(lone("one", 1, 5), lone("other", 1, 4, 4), step=4, horizon=12), True)
        self.assertIs(check_stand_in(lone("one", 1, 9), lone("other", 1, 4, 4), step=4, horizon=13), True)
        self.assertIs(check_stand_in(lone("one", 1, 9), lone("other", 1, 4, 4), step=4, horizon=12), False)

    def test_the_step_0_and_great_steps(self):
        for step in (0, 20, 21, 1000, 10 ** 30):
            self.assertIs(check_stand_in(OTHER, OTHER, step=step, horizon=20), False)
            self.assertIs(check_stand_in(lone("one", 1, 1), lone("other", 1, 1), step=step, horizon=20), False)

    def test_a_growth_of_0(self):
        # Without circuits nothing grows in the end, although the other task has ways.
        other = Task("other", kinds=[("a", 2, 1), ("b", 3, 1)], ways=[("a", "b", 2)])
        self.assertIs(check_stand_in(lone("one", 1, 1), other, step=1, horizon=6), True)
        self.assertIs(check_stand_in(lone("one", 1, 1, 3), other, step=3, horizon=7), False)
        self.assertEqual(stand_in_step(lone("one", 1, 1), other, horizon=6), 1)

    def test_the_least_of_several_steps(self):
        one, other = lone("one", 1, 2, 4), lone("other", 1, 2, 4)
        for step in range(25):
            self.assertIs(check_stand_in(one, other, step=step, horizon=30), step in (4, 8, 12, 16, 20, 24))
        self.assertEqual(stand_in_step(one, other, horizon=30), 4)

    def test_no_step(self):
        self.assertIsNone(stand_in_step(ONE, OTHER, horizon=8))
        self.assertIsNone(stand_in_step(ONE, ONE, horizon=11))
        self.assertEqual(stand_in_step(ONE, ONE, horizon=12), 4)
        self.assertIsNone(stand_in_step(lone("one", 1, 1), lone("other", 1, 1), horizon=1))

    def test_against_the_words(self):
        random = Random(108)
        seen = {}
        for _ in range(1500):
            one, other = random_pair(random)
            step, horizon = random.randint(0, 8), random.randint(1, 24)
            conditions = broken(one, other, step, horizon)
            self.assertIs(check_stand_in(one, other, step=step, horizon=horizon), not conditions)
            for condition in conditions or ["none"]:
                seen[condition] = True
        self.assertLessEqual({"none", "room", "excess", "other", "just", "one", "same", "led"}, set(seen))

    def test_the_least_step_against_the_words(self):
        random = Random(109)
        seen = {}
        for _ in range(250):
            one, other = random_pair(random)
            horizon = random.randint(1, 24)
            found = stand_in_step(one, other, horizon=horizon)
            self.assertEqual(found, slow_step(one, other, horizon))
            seen[found] = True
        self.assertGreater(len(seen), 5)


class Point109(StandIn):
    def test_where_a_step_passes_there_is_never_an_excess(self):
        random = Random(110)
        count = 0
        for _ in range(600):
            one, other = random_pair(random)
            if stand_in_step(one, other, horizon=random.randint(1, 24)) is not None:
                self.assertIsNone(first_excess(one, other, horizon=150))
                count += 1
        self.assertGreater(count, 100)

    def test_undecided(self):
        # The excess comes at the length 8, and steps of 4 need a horizon of 12.
        self.assertEqual(self.asked(ONE, OTHER, 7), "undecided")
        self.assertEqual(self.asked(ONE, ONE, 11), "undecided")
        self.assertIsNone(self.asked(ONE, ONE, 12))
        self.assertEqual(self.asked(lone("one", 1, 1), lone("other", 1, 1), 1), "undecided")

    def test_an_excess_just_at_the_horizon(self):
        self.assertEqual(self.asked(ONE, OTHER, 8), fields(part_at(OTHER, 8)))
        self.assertEqual(self.asked(ONE, OTHER, 1000), fields(part_at(OTHER, 8)))

    def test_against_the_words(self):
        random = Random(111)
        seen = {}
        for _ in range(250):
            one, other = random_pair(random)
            horizon = random.randint(1, 24)
            excess = slow_excess(one, other, horizon)
            if excess is not None:
                expected = fields(part_at(other, excess))
            else:
                expected = None if slow_step(one, other, horizon) else "undecided"
            self.assertEqual(self.asked(one, other, horizon), expected)
            seen[type(expected)] = True
        self.assertEqual(len(seen), 3)


class Point110(StandIn):
    def test_the_length_0(self):
        self.assertEqual(splittings(OTHER, 0), [0])
        self.assertEqual(splittings(engine_circle(), 0), [0])

    def test_lengths_that_are_split_in_several_ways(self):
        # 8 = 4 + 4, 9 = 4 + 4 + 1 = 4 + 5 = 9, and the demand for 9 is 6, too.
        self.assertEqual(splittings(OTHER, 12), [0, 0, 0, 0, 3, 3, 3, 3, 6, 6, 6, 6, 9])
        self.assertEqual(splittings(lone("t", 5, 3), 7), [0, 0, 0, 5, 5, 5, 10, 10])

    def test_a_length_that_is_best_whole(self):
        # A job of each kind within 4, but only one within 3 or less.
        task = Task("t", kinds=[("a", 2, 3), ("b", 9, 3)], ways=[("a", "b", 1)])
        self.assertEqual(splittings(task, 4), [0, 0, 0, 9, 11])

    def test_against_the_words(self):
        random = Random(112)
        for _ in range(60):
            task = random_task(random)
            found = splittings(task, 8)
            self.assertEqual(found, [slow_splitting(task, length) for length in range(9)])

    def test_new_lists(self):
        found = splittings(OTHER, 3)
        found[0] = 9
        self.assertEqual(splittings(OTHER, 3), [0, 0, 0, 0])


class Point111(StandIn):
    def test_example(self):
        one = Task("one", kinds=[("x", 3, 4)], ways=[("x", "x", 4)])
        other = Task("other", kinds=[("y", 3, 4)], ways=[("y", "y", 5)])
        self.assertEqual(fields(may_stand(one, other, horizon=20)), (8, 6, [0, 0, 0, 3, 0, 0, 0, 6, 60]))

    def test_a_part_whose_splitting_is_0(self):
        self.assertEqual(fields(part_at(lone("t", 7, 5), 3)), (3, 1, [0, 0, 1, 57]))

    def test_a_part_of_the_length_1(self):
        self.assertEqual(fields(part_at(lone("t", 7, 5), 1)), (1, 1, [1, 29]))
        self.assertEqual(fields(part_at(lone("t", 7, 1), 1)), (1, 7, [14, 35]))

    def test_the_greatest_cost_of_a_kind(self):
        task = Task("t", kinds=[("a", 2, 9), ("b", 50, 8), ("c", 3, 9)])
        self.assertEqual(fields(part_at(task, 2)), (2, 1, [0, 1, 301]))

    def test_against_the_words(self):
        random = Random(113)
        for _ in range(100):
            task = random_task(random)
            length = random.randint(1, 8)
            sums = [slow_splitting(task, part) for part in range(length + 1)]
            cost = max(1, sums[-1])
            table = [sums[part] - sums[part - 1] for part in range(1, length)]
            table.append(demand(task, length) + cost - sums[length - 1])
            table.append(2 * max(kind[1] for kind in task.kinds) * (length + 1) + cost)
            self.assertEqual(fields(part_at(task, length)), (length, cost, table))
            self.assertEqual(len(table), length + 1)

    def test_the_system_of_a_part(self):
        system = part_system(OTHER, part_at(OTHER, 8))
        job = Task("job", kinds=[("job", 6, 8)])
        expected = System([OTHER, job], table=[0, 0, 0, 3, 0, 0, 0, 6, 60])
        self.assertEqual(format_system(system), format_system(expected))

    def test_a_first_task_named_job(self):
        for name, second in (("job", "job2"), ("job2", "job"), ("jobs", "job")):
            system = part_system(lone(name, 7, 5), Part(3, 1, [0, 0, 1, 57]))
            self.assertEqual([task.name for task in system.tasks], [name, second])
            self.assertEqual((system.tasks[1].kinds, system.tasks[1].ways), ((("job", 1, 3),), ()))

    def test_a_part_beyond_the_bounds(self):
        with self.assertRaises(InvalidTask):
            part_system(OTHER, Part(3, 1001, [1]))
        with self.assertRaises(InvalidTable):
            part_system(OTHER, Part(3, 1, [1000001]))

    def test_a_part_keeps_a_copy_of_its_table(self):
        table = [1, 2]
        part = Part(1, 3, table)
        table.append(3)
        self.assertEqual(fields(part), (1, 3, [1, 2]))


class Point112(StandIn):
    def test_the_systems_of_the_first_excess(self):
        random = Random(114)
        lengths = {}
        for _ in range(300):
            one, other = random_pair(random)
            try:
                part = may_stand(one, other, horizon=20)
            except Undecided:
                continue
            if part is None:
                continue
            lengths[part.length] = True
            self.assertTrue(is_never_late(part_system(other, part)))
            system = part_system(one, part)
            miss = first_miss(system, horizon=part.length)
            self.assertTrue(check_miss(system, miss))
            self.assertTrue(is_overfull(system, start=0, length=part.length))
        self.assertGreater(len(lengths), 4)

    def test_nothing_changes(self):
        kinds, ways = (OTHER.kinds, OTHER.ways), (ONE.kinds, ONE.ways)
        part = may_stand(ONE, OTHER, horizon=20)
        part_system(OTHER, part)
        part.table.append(9)
        self.assertEqual((OTHER.kinds, OTHER.ways), kinds)
        self.assertEqual((ONE.kinds, ONE.ways), ways)
        self.assertEqual(len(may_stand(ONE, OTHER, horizon=20).table), 9)


if __name__ == "__main__":
    unittest.main()
