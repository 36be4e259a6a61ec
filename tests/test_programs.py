"""traceclasses/programs.py: [c8], programs, schedules, runs."""

import itertools
import unittest

from by_running import (
    EXAMPLE_PROGRAM, NO_NAMES, NO_STEPS, NO_THREADS, WAITING,
    after, all_runs, full_programs, next_threads, some_programs,
)
from by_search import quick
from traceclasses.errors import AlphabetFault, ExchangeFault, ScheduleFault, TraceFault
from traceclasses.programs import possible, touched, values_behind


def one_thread(values, *steps):
    return ("program", values, (steps,))


def fault(program, schedule):
    """The number that the ScheduleFault has; None if there is none."""
    try:
        values_behind(program, schedule)
    except ScheduleFault as e:
        return e.number
    return None


class ValuesBehind(unittest.TestCase):
    def test_by_hand(self):
        self.assertEqual(values_behind(EXAMPLE_PROGRAM, (0, 0, 1)), (("x", 3), ("y", 1)))
        self.assertEqual(values_behind(EXAMPLE_PROGRAM, (0, 1, 0)), (("x", 3), ("y", 3)))
        self.assertEqual(values_behind(EXAMPLE_PROGRAM, (0,)), (("x", 1), ("y", 0)))
        self.assertEqual(values_behind(WAITING, (0, 0, 1, 1, 0)), (("x", 0), ("y", 2), ("z", 7)))

    def test_each_kind_of_step(self):
        values = (("a", 5), ("b", -3))
        for step, behind in (
            (("add", "a", 4), (("a", 9), ("b", -3))),
            (("add", "b", -4), (("a", 5), ("b", -7))),
            (("add", "b", 0), values),
            (("copy", "a", "b"), (("a", -3), ("b", -3))),
            (("copy", "b", "a"), (("a", 5), ("b", 5))),
            (("copy", "b", "b"), values),
            (("wait", "a", 5), values),
            (("wait", "b", -3), values),
            (("look", "a"), values),
        ):
            program = one_thread(values, step)
            self.assertEqual(values_behind(program, (0,)), behind)
            self.assertEqual(values_behind(program, ()), values)

    def test_a_copy_is_of_the_value_that_is_then(self):
        program = one_thread((("a", 1), ("b", 2)), ("copy", "a", "b"), ("add", "b", 10), ("copy", "b", "a"))
        self.assertEqual(values_behind(program, (0, 0)), (("a", 2), ("b", 12)))
        self.assertEqual(values_behind(program, (0, 0, 0)), (("a", 2), ("b", 2)))

    def test_names_that_no_step_touches_are_told(self):
        program = one_thread((("a", 1), ("q", -8), ("z", 0)), ("add", "z", 1))
        self.assertEqual(values_behind(program, (0,)), (("a", 1), ("q", -8), ("z", 1)))

    def test_the_empty_schedule(self):
        for program in (EXAMPLE_PROGRAM, NO_NAMES, NO_STEPS, NO_THREADS, WAITING):
            self.assertEqual(values_behind(program, ()), program[1])

    def test_against_plain_steps(self):
        for program in some_programs(3, 3, 3, 40) + some_programs(2, 4, 2, 40):
            for run in all_runs(program)[::7]:
                found = values_behind(program, run)
                self.assertEqual(found, tuple(sorted(after(program, run)[0].items())), (program, run))


class Faults(unittest.TestCase):
    def test_the_class(self):
        with self.assertRaises(ScheduleFault) as caught:
            values_behind(EXAMPLE_PROGRAM, (0, 2, 5))
        self.assertEqual(caught.exception.number, 1)
        self.assertIsInstance(caught.exception, TraceFault)
        self.assertIsInstance(caught.exception, ValueError)
        self.assertNotIsInstance(caught.exception, (AlphabetFault, ExchangeFault))

    def test_no_step_left(self):
        self.assertEqual(fault(EXAMPLE_PROGRAM, (1, 1)), 1)
        self.assertEqual(fault(EXAMPLE_PROGRAM, (0, 1, 0, 0)), 3)
        self.assertEqual(fault(NO_STEPS, (2,)), 0)
        self.assertIsNone(fault(EXAMPLE_PROGRAM, (0, 1, 0)))

    def test_the_number_of_no_thread(self):
        for number in (-1, -2, 2, 3, 100):
            self.assertEqual(fault(EXAMPLE_PROGRAM, (number,)), 0)
            self.assertEqual(fault(EXAMPLE_PROGRAM, (0, 1, number, 0)), 2)
        self.assertEqual(fault(NO_THREADS, (0,)), 0)
        self.assertEqual(fault(NO_THREADS, (-1,)), 0)

    def test_a_wait_whose_value_is_too_small(self):
        self.assertEqual(fault(WAITING, (1,)), 0)
        self.assertEqual(fault(WAITING, (0, 1)), 1)
        self.assertEqual(fault(WAITING, (0, 0, 0, 1)), 3)
        self.assertEqual(fault(WAITING, (0, 0, 1, 1, 2)), 4)
        self.assertIsNone(fault(WAITING, (0, 0, 1, 0, 1)))

    def test_a_wait_by_its_number(self):
        for low, possible_then in ((2, True), (3, True), (4, False), (-5, True)):
            program = one_thread((("a", 3),), ("wait", "a", low))
            self.assertEqual(fault(program, (0,)), None if possible_then else 0)

    def test_the_first_one(self):
        self.assertEqual(fault(WAITING, (0, 2, 7, 1)), 1)
        self.assertEqual(fault(WAITING, (0, 7, 2, 1)), 1)

    def test_against_plain_steps(self):
        for program in some_programs(3, 2, 2, 30):
            for schedule in itertools.product(range(-1, 4), repeat=4):
                first = next((k for k in range(4) if after(program, schedule[:k + 1]) is None), None)
                self.assertEqual(fault(program, schedule), first, (program, schedule))


class Possible(unittest.TestCase):
    def test_by_hand(self):
        self.assertEqual(possible(EXAMPLE_PROGRAM, ()), (0, 1))
        self.assertEqual(possible(EXAMPLE_PROGRAM, (0, 0)), (1,))
        self.assertEqual(possible(EXAMPLE_PROGRAM, (1,)), (0,))
        self.assertEqual(possible(WAITING, (0,)), (0,))
        self.assertEqual(possible(WAITING, (0, 0)), (0, 1))
        self.assertEqual(possible(WAITING, (0, 0, 1)), (0, 1))

    def test_none(self):
        self.assertEqual(possible(EXAMPLE_PROGRAM, (0, 1, 0)), ())
        # One thread has a step left here, and waits.
        self.assertEqual(possible(WAITING, (0, 0, 1, 1, 0)), ())
        self.assertEqual(possible(WAITING, (0, 0, 0)), ())

    def test_threads_without_steps_and_no_threads(self):
        self.assertEqual(possible(NO_STEPS, ()), ())
        self.assertEqual(possible(NO_THREADS, ()), ())
        self.assertEqual(possible(NO_NAMES, ()), ())
        program = ("program", (("a", 0),), ((), (("look", "a"),), (), (("add", "a", 1),)))
        self.assertEqual(possible(program, ()), (1, 3))
        self.assertEqual(possible(program, (3,)), (1,))

    def test_against_plain_steps(self):
        for program in some_programs(3, 3, 3, 40) + some_programs(2, 4, 2, 40):
            for run in all_runs(program)[::7]:
                self.assertEqual(possible(program, run), tuple(next_threads(program, run)), (program, run))


class Touched(unittest.TestCase):
    def test_each_kind(self):
        self.assertEqual(touched(("add", "x", 2)), ("x", "x"))
        self.assertEqual(touched(("add", "x", -2)), ("x", "x"))
        self.assertEqual(touched(("add", "x", 0)), ("x", "x"))
        self.assertEqual(touched(("copy", "x", "y")), ("xy", "x"))
        self.assertEqual(touched(("copy", "y", "x")), ("xy", "y"))
        self.assertEqual(touched(("copy", "z", "z")), ("z", "z"))
        self.assertEqual(touched(("wait", "x", 2)), ("x", ""))
        self.assertEqual(touched(("look", "y")), ("y", ""))

    def test_what_it_changes_is_what_changes(self):
        values = (("p", 1), ("q", 5), ("r", 9))
        for step in itertools.chain(
            itertools.product(("copy",), "pqr", "pqr"), itertools.product(("add", "wait"), "pqr", (-3, 1)),
            itertools.product(("look",), "pqr"),
        ):
            behind = values_behind(one_thread(values, step), (0,))
            changed = "".join(name for (name, old), (_, new) in zip(values, behind) if old != new)
            self.assertIn(changed, (touched(step)[1], ""))
            self.assertEqual(changed == "", touched(step)[1] == "" or step[0] == "copy" and step[1] == step[2])


class FullPrograms(unittest.TestCase):
    def test_three_threads_of_four_steps_take_no_noticeable_time(self):
        for program in full_programs(20):
            run = ()
            while next_threads(program, run):
                run += (next_threads(program, run)[-1],)
            quick(self, values_behind, program, run)
            quick(self, possible, program, run)


if __name__ == "__main__":
    unittest.main()
