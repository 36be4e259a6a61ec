"""traceclasses/runs.py: [c9] (alike runs), [t1], whole runs and where they end."""

import itertools
import unittest

from by_running import (
    EXAMPLE_PROGRAM, NO_NAMES, NO_STEPS, NO_THREADS, WAITING,
    after, alike_runs, all_runs, full_programs, some_programs, whole_runs,
)
from by_search import quick
from traceclasses.programs import possible
from traceclasses.runs import ends, first_run, runs, same_runs, stuck

APART = ("program", (("x", 0), ("y", 0), ("z", 0)), tuple((("add", name, 1),) * 4 for name in "xyz"))
TOGETHER = ("program", (("x", 0), ("y", 0), ("z", 0)), ((("add", "x", 1),) * 4,) * 3)
# The first thread gets stuck if the second one goes first.
LATE = ("program", (("x", 1),), ((("wait", "x", 1), ("look", "x")), (("add", "x", -1),)))
SMALL = some_programs(3, 3, 3, 60) + some_programs(2, 4, 2, 40)


def classes(program):
    """The least runs of all classes of whole runs, rising."""
    return sorted({min(alike_runs(program, run)) for run in whole_runs(program)})


class Alike(unittest.TestCase):
    def test_by_hand(self):
        self.assertIs(same_runs(EXAMPLE_PROGRAM, (0, 0, 1), (0, 1, 0)), False)
        self.assertIs(same_runs(APART, (0, 1, 2, 0), (2, 0, 0, 1)), True)
        self.assertEqual(first_run(APART, (2, 0, 1, 0)), (0, 0, 1, 2))
        self.assertEqual(first_run(TOGETHER, (2, 0, 1, 0)), (2, 0, 1, 0))
        self.assertEqual(first_run(EXAMPLE_PROGRAM, (1, 0, 0)), (1, 0, 0))

    def test_what_two_steps_only_read_does_not_part_runs(self):
        program = ("program", (("x", 0), ("y", 0), ("z", 0)), (
            (("look", "x"), ("copy", "y", "x")), (("wait", "x", 0), ("copy", "z", "x"))))
        self.assertEqual(first_run(program, (1, 1, 0, 0)), (0, 0, 1, 1))
        self.assertIs(same_runs(program, (1, 1, 0, 0), (0, 1, 0, 1)), True)

    def test_a_step_in_between_holds_two_apart(self):
        program = ("program", (("x", 0), ("y", 0)), ((("add", "y", 1),), (("copy", "y", "x"),), (("add", "x", 1),)))
        self.assertEqual(first_run(program, (2, 1, 0)), (2, 1, 0))
        self.assertEqual(first_run(program, (2, 0, 1)), (0, 2, 1))
        self.assertEqual(first_run(program, (2, 0)), (0, 2))

    def test_unlike_many_steps(self):
        self.assertIs(same_runs(APART, (0, 1), (0,)), False)
        self.assertIs(same_runs(APART, (0, 1), (0, 2)), False)
        self.assertIs(same_runs(APART, (), (0,)), False)
        self.assertIs(same_runs(APART, (0, 0, 1), (0, 1, 1)), False)

    def test_the_empty_run(self):
        for program in (EXAMPLE_PROGRAM, NO_NAMES, NO_STEPS, NO_THREADS, WAITING):
            self.assertEqual(first_run(program, ()), ())
            self.assertIs(same_runs(program, (), ()), True)

    def test_against_exchanges(self):
        for program in some_programs(3, 3, 3, 25) + some_programs(2, 3, 2, 25):
            by_run = {run: min(alike_runs(program, run)) for run in all_runs(program)[-60:]}
            for run, first in by_run.items():
                self.assertEqual(first_run(program, run), first, (program, run))
            for run, other in itertools.product(list(by_run)[::5], by_run):
                self.assertIs(same_runs(program, run, other), by_run[run] == by_run[other], (program, run, other))


class Runs(unittest.TestCase):
    def test_the_example_of_the_document(self):
        self.assertEqual(runs(EXAMPLE_PROGRAM), ((0, 0, 1), (0, 1, 0), (1, 0, 0)))

    def test_by_hand(self):
        self.assertEqual(runs(APART), ((0,) * 4 + (1,) * 4 + (2,) * 4,))
        self.assertEqual(runs(LATE), ((0, 0, 1), (0, 1, 0), (1,)))
        self.assertEqual(runs(WAITING), ((0, 0, 0), (0, 0, 1, 0, 1), (0, 0, 1, 1, 0)))

    def test_edges(self):
        for program in (NO_NAMES, NO_STEPS, NO_THREADS):
            self.assertEqual(runs(program), ((),))
        # No step is possible from the start.
        self.assertEqual(runs(("program", (("x", 0),), ((("wait", "x", 1), ("add", "x", 1)),))), ((),))
        self.assertEqual(runs(("program", (("x", 0),), ((), (("add", "x", 1),)))), ((1,),))

    def test_against_all_whole_runs(self):
        for program in SMALL:
            self.assertEqual(runs(program), tuple(classes(program)), program)

    def test_no_class_is_left_out_where_all_steps_are_dependent(self):
        small = ("program", (("x", 0),), ((("add", "x", 1),) * 2,) * 3)
        self.assertEqual(runs(small), tuple(sorted(set(itertools.permutations((0, 0, 1, 1, 2, 2))))))


class Ends(unittest.TestCase):
    def test_the_example_of_the_document(self):
        self.assertEqual(ends(EXAMPLE_PROGRAM), ((("x", 3), ("y", 1)), (("x", 3), ("y", 3))))

    def test_by_hand(self):
        self.assertEqual(ends(APART), ((("x", 4), ("y", 4), ("z", 4)),))
        self.assertEqual(ends(TOGETHER), ((("x", 12), ("y", 0), ("z", 0)),))
        self.assertEqual(ends(WAITING), ((("x", 0), ("y", -2), ("z", 7)), (("x", 0), ("y", 0), ("z", 7)),
                                         (("x", 0), ("y", 2), ("z", 7))))

    def test_edges(self):
        for program in (NO_NAMES, NO_STEPS, NO_THREADS):
            self.assertEqual(ends(program), (program[1],))
        waits = ("program", (("x", -1),), ((("wait", "x", 0), ("add", "x", 1)),))
        self.assertEqual(ends(waits), (waits[1],))

    def test_against_all_whole_runs(self):
        for program in SMALL:
            plain = {tuple(sorted(after(program, run)[0].items())) for run in whole_runs(program)}
            self.assertEqual(ends(program), tuple(sorted(plain)), program)


class Stuck(unittest.TestCase):
    def test_by_hand(self):
        self.assertEqual(stuck(EXAMPLE_PROGRAM), ())
        self.assertEqual(stuck(LATE), ((1,),))
        self.assertEqual(stuck(WAITING), runs(WAITING))

    def test_edges(self):
        for program in (NO_NAMES, NO_STEPS, NO_THREADS):
            self.assertEqual(stuck(program), ())
        self.assertEqual(stuck(("program", (("x", 0),), ((), (("wait", "x", 1),)))), ((),))

    def test_against_all_whole_runs(self):
        stuck_ones = 0
        for program in SMALL:
            plain = tuple(run for run in classes(program) if any(after(program, run)[1]))
            self.assertEqual(stuck(program), plain, program)
            stuck_ones += len(plain)
        self.assertGreater(stuck_ones, 50)


class FullPrograms(unittest.TestCase):
    def test_runs_of_twelve_steps_take_no_noticeable_time(self):
        for program in full_programs(10) + [APART, TOGETHER]:
            run = ()
            while possible(program, run):
                run += possible(program, run)[-1:]
            quick(self, first_run, program, run)
            quick(self, same_runs, program, run, run)
            quick(self, ends, program)

    def test_all_runs_of_three_threads_of_four_steps(self):
        self.assertEqual(len(quick(self, runs, APART)), 1)
        self.assertEqual(len(runs(TOGETHER)), 34650)
        for program in full_programs(4):
            found = runs(program)
            self.assertEqual(found, tuple(sorted(set(found))))
            for run in found[::len(found) // 10 + 1]:
                self.assertEqual(first_run(program, run), run)
                self.assertEqual(possible(program, run), ())


if __name__ == "__main__":
    unittest.main()
