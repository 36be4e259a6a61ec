"""Whole runs of programs, one for each class of alike ones, and where they end."""

from traceclasses.programs import beginning, next_steps, ready, stepped
from traceclasses.watching import are_dependent, least_run


def same_runs(program, schedule, other):
    """Whether two runs are alike."""
    return first_run(program, schedule) == first_run(program, other)


def first_run(program, schedule):
    """The run that is least as a tuple among all that are alike one."""
    return least_run(program, schedule)


def runs(program):
    """The rising tuple of the first ones of all whole runs."""
    found = []
    waiting = [((), beginning(program), ())]
    while waiting:
        run, point, barred = waiting.pop()
        threads = ready(program, point)
        if not threads:
            found.append(run)
        # What is put in last is taken out first, so the runs come in order.
        for thread in reversed(threads):
            if thread not in barred:
                behind = barred_behind(program, point, barred, thread)
                waiting.append((run + (thread,), stepped(program, point, thread), behind))
    return tuple(found)


def barred_behind(program, point, barred, thread):
    """The threads whose next step cannot follow in a first run, one step of a thread behind those of barred."""
    # A step is barred if it could pass all back to one of a greater thread, and so stand ahead of it.
    steps = next_steps(program, point)
    now = (thread, steps[thread])
    return tuple([other for other, step in steps.items()
                  if (other in barred or other < thread) and not are_dependent((other, step), now)])


def ends(program):
    """The rising tuple of the values behind whole runs, each once."""
    found = {}
    seen = {}
    waiting = [beginning(program)]
    while waiting:
        point = waiting.pop()
        if point not in seen:
            seen[point] = True
            threads = ready(program, point)
            if not threads:
                found[point[1]] = True
            waiting.extend([stepped(program, point, thread) for thread in threads])
    return tuple(sorted(found))


def stuck(program):
    """The rising tuple of the first ones of the whole runs behind which some thread has a step left."""
    many = sum([len(steps) for steps in program[2]])
    return tuple([run for run in runs(program) if len(run) < many])
