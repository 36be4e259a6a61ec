"""What stands before what in a run, and what runs that are alike it pass."""

from traceclasses.graphs import carried_on, direct
from traceclasses.programs import one_more, touched, values_behind


def before(program, schedule):
    """For each step the rising tuple of the steps directly before it."""
    rows = all_steps_before(program, schedule)
    return tuple([direct(rows, row) for row in rows])


def all_steps_before(program, schedule):
    """For each step all steps that stand before it, as the keys of a dict."""
    made = steps_made(program, schedule)
    return carried_on([[other for other in range(at) if are_dependent(made[other], step)]
                       for at, step in enumerate(made)])


def steps_made(program, schedule):
    """For each step of a run its thread and the step."""
    return [(thread, program[2][thread][schedule[:at].count(thread)]) for at, thread in enumerate(schedule)]


def are_dependent(one, other):
    """Whether two steps, each with its thread, are dependent."""
    names, changed = touched(one[1])
    others, changed_by_other = touched(other[1])
    return one[0] == other[0] or any([name in others and name in (changed, changed_by_other) for name in names])


def clocks(program, schedule):
    """For each step a tuple: of each thread how many steps stand before it or are it."""
    rows = all_steps_before(program, schedule)
    return tuple([by_threads(program, [schedule[k] for k in [*row, at]]) for at, row in enumerate(rows)])


def by_threads(program, threads):
    """For each thread of a program how often it stands in a list or tuple."""
    return tuple([threads.count(thread) for thread in range(len(program[2]))])


def races(program, schedule):
    """The rising tuple of the pairs of dependent steps of unlike threads between which no step stands."""
    # What stands directly before a step is dependent with it.
    rows = before(program, schedule)
    return tuple(sorted([(other, at) for at, row in enumerate(rows) for other in row
                         if schedule[other] != schedule[at]]))


def cuts(program, schedule):
    """The rising tuple of all cuts."""
    return tuple(sorted(cut_runs(program, schedule)))


def some(program, schedule, condition):
    """The least of the shortest beginnings of alike runs behind which a condition is met, or None."""
    for run in cut_runs(program, schedule).values():
        if meets(program, run, condition):
            return run
    return None


def every(program, schedule, condition):
    """None if all alike runs pass a condition, else the least one that does not."""
    # Steps that change one name are dependent, so its values follow one another alike in all
    # alike runs: all of them pass, or none does.
    if some(program, schedule, condition) is not None:
        return None
    return least_run(program, schedule)


def meets(program, schedule, condition):
    """Whether the values behind a schedule meet a condition."""
    name, low = condition
    return dict(values_behind(program, schedule))[name] >= low


def least_run(program, schedule):
    """The run that is least as a tuple among all that are alike one."""
    return cut_runs(program, schedule)[by_threads(program, schedule)]


def cut_runs(program, schedule):
    """A dict: by all cuts the least beginning of an alike run that leads there; shorter ones
    first, then lesser ones.
    """
    needed = needed_cuts(program, schedule)
    found = {}
    row = {by_threads(program, ()): ()}
    while row:
        found.update(row)
        row = longer_runs(needed, row)
    return found


def needed_cuts(program, schedule):
    """A dict: by (thread, number of a step of it, from 1) the least cut that has this step."""
    return {(thread, clock[thread]): clock for thread, clock in zip(schedule, clocks(program, schedule))}


def longer_runs(needed, row):
    """The dict of cut_runs for beginnings that have one step more than those of a row."""
    # These are in order, so the first one that leads to a cut is the least.
    found = {}
    for cut, run in row.items():
        for thread in range(len(cut)):
            more = one_more(cut, thread)
            clock = needed.get((thread, more[thread]))
            if clock is not None and all(low <= high for low, high in zip(clock, more)):
                found.setdefault(more, run + (thread,))
    return found
