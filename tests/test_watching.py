"""traceclasses/watching.py: [c9] (dependent steps), [t2], [t3], [t4]."""

import unittest

from by_running import (
    EXAMPLE_PROGRAM, NO_NAMES, NO_STEPS, NO_THREADS, WAITING,
    after, alike_runs, all_runs, are_dependent, beginnings, counted, full_programs, holds, next_threads,
    some_programs, steps_of, whole_runs,
)
from by_search import quick
from traceclasses.watching import before, clocks, cuts, every, races, some

# One thread for each step.
MANY_KINDS = ("program", (("x", 0), ("y", 0), ("z", 0)), (
    (("copy", "x", "y"), ("look", "z")), (("copy", "z", "y"),), (("look", "y"), ("add", "x", -1)), (("copy", "y", "y"),),
))


def sides(*steps):
    """A program in which each step has a thread of its own."""
    return ("program", (("x", 0), ("y", 0), ("z", 0)), tuple((step,) for step in steps))


def some_runs(program, many):
    """Some of the runs of a program, whole and not whole ones."""
    found = all_runs(program)
    return found[::max(1, len(found) // many)] + found[-1:]


def plain_before(program, run):
    """For each step the set of all steps that stand before it."""
    steps = steps_of(program, run)
    rows = []
    for k in range(len(run)):
        near = [j for j in range(k) if are_dependent(steps[j], steps[k])]
        rows.append(set(near).union(*[rows[j] for j in near]))
    return rows


class Before(unittest.TestCase):
    def test_by_hand(self):
        self.assertEqual(before(EXAMPLE_PROGRAM, (0, 0, 1)), ((), (0,), (1,)))
        self.assertEqual(before(EXAMPLE_PROGRAM, (0, 1, 0)), ((), (0,), (1,)))
        self.assertEqual(before(WAITING, (0, 0, 1, 1)), ((), (0,), (1,), (2,)))
        self.assertEqual(before(MANY_KINDS, (2, 0, 1, 0, 3)), ((), (), (), (1, 2), (0, 1, 2)))

    def test_what_is_dependent(self):
        looks = ("look", "x"), ("wait", "x", -5), ("copy", "y", "x"), ("copy", "z", "x")
        for one in looks:
            for other in looks:
                if one[:2] != other[:2] or one[0] == "look":
                    self.assertEqual(before(sides(one, other), (0, 1)), ((), ()), (one, other))
        # Two copies of one name into the same other one both change that one.
        self.assertEqual(before(sides(looks[2], looks[2]), (0, 1)), ((), (0,)))
        for change in (("add", "x", 1), ("add", "x", 0), ("copy", "x", "x"), ("copy", "x", "z")):
            for step in looks + (change,):
                self.assertEqual(before(sides(step, change), (0, 1)), ((), (0,)))
                self.assertEqual(before(sides(change, step), (0, 1)), ((), (0,)))
            for step in (("look", "y"), ("wait", "y", -5), ("add", "y", 1)):
                self.assertEqual(before(sides(step, change), (0, 1)), ((), ()))
        for step in (("copy", "y", "z"), ("copy", "z", "y")):
            self.assertEqual(before(sides(step, ("copy", "y", "y")), (0, 1)), ((), (0,)))

    def test_steps_of_one_thread(self):
        program = ("program", (("x", 0), ("y", 0)), ((("look", "x"), ("look", "y"), ("add", "x", 1)),))
        self.assertEqual(before(program, (0, 0, 0)), ((), (0,), (1,)))

    def test_edges(self):
        for program in (NO_THREADS, NO_NAMES, NO_STEPS, WAITING):
            self.assertEqual(before(program, ()), ())

    def test_against_all_pairs(self):
        for program in some_programs(3, 3, 3, 30) + some_programs(2, 4, 2, 30):
            for run in some_runs(program, 6):
                rows = plain_before(program, run)
                plain = tuple(tuple(sorted(j for j in row if not any(j in rows[i] for i in row))) for row in rows)
                self.assertEqual(before(program, run), plain, (program, run))


class Clocks(unittest.TestCase):
    def test_by_hand(self):
        self.assertEqual(clocks(EXAMPLE_PROGRAM, (0, 0, 1)), ((1, 0), (2, 0), (2, 1)))
        self.assertEqual(clocks(EXAMPLE_PROGRAM, (1, 0, 0)), ((0, 1), (1, 1), (2, 1)))
        self.assertEqual(clocks(MANY_KINDS, (2, 0, 1, 0)), ((0, 0, 1, 0), (1, 0, 0, 0), (0, 1, 0, 0), (2, 1, 0, 0)))

    def test_edges(self):
        for program in (NO_THREADS, NO_NAMES, NO_STEPS, WAITING):
            self.assertEqual(clocks(program, ()), ())
        program = ("program", (("x", 0),), ((), (("add", "x", 1),), ()))
        self.assertEqual(clocks(program, (1,)), ((0, 1, 0),))

    def test_against_all_pairs(self):
        for program in some_programs(3, 3, 3, 30) + some_programs(2, 4, 2, 30):
            for run in some_runs(program, 6):
                plain = [counted(program, tuple(run[j] for j in row) + (run[k],))
                         for k, row in enumerate(plain_before(program, run))]
                self.assertEqual(clocks(program, run), tuple(plain), (program, run))


class Races(unittest.TestCase):
    def side_by_side(self, program, run):
        """All pairs of dependent steps of unlike threads that some alike run has as neighbours."""
        place = {(thread, count): k for k, (thread, count, _) in enumerate(steps_of(program, run))}
        found = set()
        for other in alike_runs(program, run):
            steps = steps_of(program, other)
            for one, two in zip(steps, steps[1:]):
                if one[0] != two[0] and are_dependent(one, two):
                    found.add((place[one[:2]], place[two[:2]]))
        return tuple(sorted(found))

    def test_by_hand(self):
        self.assertEqual(races(EXAMPLE_PROGRAM, (0, 0, 1)), ((1, 2),))
        self.assertEqual(races(EXAMPLE_PROGRAM, (0, 1, 0)), ((0, 1), (1, 2)))
        self.assertEqual(races(EXAMPLE_PROGRAM, (1, 0, 0)), ((0, 1),))
        self.assertEqual(races(MANY_KINDS, (2, 0, 1, 0, 3)), ((0, 4), (1, 4), (2, 3), (2, 4)))

    def test_a_step_between(self):
        # The third step is dependent with the first one, but the second one stands between.
        program = sides(("add", "x", 1), ("copy", "y", "x"), ("copy", "x", "y"))
        self.assertEqual(races(program, (0, 1, 2)), ((0, 1), (1, 2)))
        self.assertEqual(races(program, (0, 2, 1)), ((0, 1), (1, 2)))
        program = sides(("add", "x", 1), ("look", "x"), ("add", "x", 1))
        self.assertEqual(races(program, (0, 1, 2)), ((0, 1), (1, 2)))

    def test_they_rise_by_the_first_step(self):
        program = sides(("add", "x", 1), ("add", "y", 1), ("look", "y"), ("look", "x"))
        self.assertEqual(races(program, (0, 1, 2, 3)), ((0, 3), (1, 2)))

    def test_edges(self):
        for program in (NO_THREADS, NO_NAMES, NO_STEPS, WAITING):
            self.assertEqual(races(program, ()), ())
        self.assertEqual(races(sides(("add", "x", 1), ("add", "y", 1)), (0, 1)), ())

    def test_against_all_alike_runs(self):
        for program in some_programs(3, 3, 3, 30) + some_programs(2, 4, 2, 30):
            for run in some_runs(program, 6):
                self.assertEqual(races(program, run), self.side_by_side(program, run), (program, run))


class Cuts(unittest.TestCase):
    def test_by_hand(self):
        self.assertEqual(cuts(EXAMPLE_PROGRAM, (0, 0, 1)), ((0, 0), (1, 0), (2, 0), (2, 1)))
        self.assertEqual(cuts(sides(("add", "x", 1), ("add", "y", 1)), (0, 1)), ((0, 0), (0, 1), (1, 0), (1, 1)))
        self.assertEqual(cuts(sides(("add", "x", 1), ("add", "y", 1)), (1,)), ((0, 0), (0, 1)))
        self.assertEqual(cuts(sides(("add", "x", 1), ("look", "x")), (1, 0)), ((0, 0), (0, 1), (1, 1)))

    def test_edges(self):
        self.assertEqual(cuts(NO_THREADS, ()), ((),))
        self.assertEqual(cuts(NO_NAMES, ()), ((0, 0),))
        self.assertEqual(cuts(NO_STEPS, ()), ((0, 0, 0),))

    def test_against_all_alike_runs(self):
        for program in some_programs(3, 3, 3, 30) + some_programs(2, 4, 2, 30):
            for run in some_runs(program, 6):
                plain = {counted(program, other) for other in beginnings(alike_runs(program, run))}
                self.assertEqual(cuts(program, run), tuple(sorted(plain)), (program, run))


class Conditions(unittest.TestCase):
    def plain_some(self, program, alike, condition):
        return next((run for run in beginnings(alike) if holds(program, run, condition)), None)

    def plain_every(self, program, alike, condition):
        for run in alike:
            if not any(holds(program, run[:k], condition) for k in range(len(run) + 1)):
                return run
        return None

    def test_by_hand(self):
        self.assertEqual(some(EXAMPLE_PROGRAM, (0, 1, 0), ("x", 3)), (0, 1))
        self.assertEqual(some(EXAMPLE_PROGRAM, (1, 0, 0), ("x", 2)), (1,))
        self.assertIsNone(some(EXAMPLE_PROGRAM, (0, 0, 1), ("y", 2)))
        self.assertIsNone(every(EXAMPLE_PROGRAM, (0, 1, 0), ("y", 3)))
        self.assertEqual(every(EXAMPLE_PROGRAM, (0, 0, 1), ("y", 2)), (0, 0, 1))

    def test_a_value_that_does_not_last(self):
        program = ("program", (("x", 0), ("y", 0)), (
            (("add", "x", 1), ("add", "x", -1)), (("add", "y", 1), ("add", "y", -1))))
        self.assertEqual(some(program, (1, 0, 1, 0), ("y", 1)), (1,))
        self.assertIsNone(every(program, (1, 0, 1, 0), ("y", 1)))
        self.assertIsNone(some(program, (1, 0, 1, 0), ("y", 2)))
        self.assertEqual(every(program, (1, 0, 1, 0), ("y", 2)), (0, 0, 1, 1))

    def test_the_start_counts_and_the_end(self):
        self.assertEqual(some(EXAMPLE_PROGRAM, (0, 1, 0), ("x", 0)), ())
        self.assertIsNone(every(EXAMPLE_PROGRAM, (0, 1, 0), ("x", 0)))
        self.assertEqual(some(EXAMPLE_PROGRAM, (1, 0), ("x", 3)), (1, 0))
        self.assertIsNone(every(EXAMPLE_PROGRAM, (1, 0), ("x", 3)))
        self.assertIsNone(some(EXAMPLE_PROGRAM, (1, 0), ("x", 4)))
        self.assertEqual(every(EXAMPLE_PROGRAM, (1, 0), ("x", 4)), (1, 0))

    def test_the_run_goes_no_further_than_its_schedule(self):
        self.assertIsNone(some(EXAMPLE_PROGRAM, (0,), ("x", 2)))
        self.assertEqual(every(EXAMPLE_PROGRAM, (0,), ("x", 2)), (0,))

    def test_the_least_of_the_shortest(self):
        program = sides(("add", "y", 5), ("add", "x", 1), ("copy", "z", "y"))
        # All of these may stand side by side, but the last needs the first.
        self.assertEqual(some(program, (1, 0, 2), ("z", 5)), (0, 2))
        self.assertEqual(some(program, (0, 1, 2), ("x", 1)), (1,))
        self.assertEqual(every(program, (1, 0, 2), ("x", 2)), (0, 1, 2))

    def test_edges(self):
        self.assertEqual(some(NO_THREADS, (), ("x", 3)), ())
        self.assertIsNone(every(NO_THREADS, (), ("x", 3)))
        self.assertIsNone(some(NO_THREADS, (), ("x", 4)))
        self.assertEqual(every(NO_THREADS, (), ("x", 4)), ())
        self.assertEqual(every(NO_STEPS, (), ("x", 4)), ())
        # A name that no step touches.
        program = ("program", (("q", -4), ("x", 0)), ((("add", "x", 1),), (("look", "x"),)))
        self.assertEqual(some(program, (0, 1), ("q", -4)), ())
        self.assertIsNone(some(program, (0, 1), ("q", -3)))
        self.assertEqual(every(program, (1, 0), ("q", -3)), (1, 0))

    def test_against_all_alike_runs(self):
        for program in some_programs(3, 3, 3, 40) + some_programs(2, 4, 2, 30):
            for run in some_runs(program, 4):
                alike = alike_runs(program, run)
                for name, _ in program[1]:
                    for low in range(-1, 4):
                        condition = (name, low)
                        self.assertEqual(some(program, run, condition), self.plain_some(program, alike, condition))
                        self.assertEqual(every(program, run, condition), self.plain_every(program, alike, condition))


class FullPrograms(unittest.TestCase):
    def test_three_threads_of_four_steps_take_no_noticeable_time(self):
        apart = ("program", (("x", 0), ("y", 0), ("z", 0)), tuple((("add", name, 1),) * 4 for name in "xyz"))
        for program in full_programs(10) + [apart]:
            run = ()
            while next_threads(program, run):
                run += (next_threads(program, run)[len(run) % len(next_threads(program, run))],)
            for reckon in (before, clocks, races, cuts):
                quick(self, reckon, program, run)
            most = max(value for _, value in after(program, run)[0].items())
            for low in (most, 1000):
                quick(self, some, program, run, ("x", low))
                quick(self, every, program, run, ("x", low))
        self.assertEqual(len(cuts(apart, (0, 1, 2) * 4)), 125)
        self.assertEqual(every(apart, (2, 1, 0) * 4, ("z", 5)), (0,) * 4 + (1,) * 4 + (2,) * 4)


if __name__ == "__main__":
    unittest.main()
