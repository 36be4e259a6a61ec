"""Programs for the tests, and what is so behind their steps, without the package."""

import random

EXAMPLE_PROGRAM = (
    "program", (("x", 0), ("y", 0)),
    ((("add", "x", 1), ("copy", "y", "x")), (("add", "x", 2),)),
)
NO_THREADS = ("program", (("x", 3),), ())
NO_NAMES = ("program", (), ((), ()))
NO_STEPS = ("program", (("x", 3),), ((), (), ()))
# The second thread waits for what the first one does, the third for what none does.
WAITING = ("program", (("x", 0), ("y", -2), ("z", 7)), (
    (("look", "z"), ("add", "x", 2), ("add", "x", -2)),
    (("wait", "x", 1), ("copy", "y", "x")),
    (("wait", "y", 3), ("look", "y")),
))


def some_programs(threads, length, names, many):
    """So many programs, by chance but the same each time, of at most so many threads, steps and names."""
    chance = random.Random(100 * threads + 10 * length + names)
    return [one_by_chance(chance, threads, length, "xyz"[:names]) for _ in range(many)]


def one_by_chance(chance, threads, length, names):
    values = tuple((name, chance.randint(-1, 2)) for name in names)
    rows = [[step_by_chance(chance, names) for _ in range(chance.randint(0, length))]
            for _ in range(chance.randint(0, threads))]
    return ("program", values, tuple(tuple(row) for row in rows))


def step_by_chance(chance, names):
    name = chance.choice(names)
    return chance.choice((
        ("add", name, chance.randint(-2, 3)), ("copy", name, chance.choice(names)),
        ("wait", name, chance.randint(-1, 2)), ("look", name), ("add", name, 1),
    ))


def full_programs(many):
    """So many programs of three threads with four steps each and three names."""
    chance = random.Random(12)
    return [("program", (("x", 0), ("y", 1), ("z", 2)),
             tuple(tuple(step_by_chance(chance, "xyz") for _ in range(4)) for _ in range(3))) for _ in range(many)]


def after(program, schedule):
    """The values behind a schedule as a dict, and the steps that each thread has left; None if it is not possible."""
    values = dict(program[1])
    left = [list(row) for row in program[2]]
    for thread in schedule:
        if thread not in range(len(left)) or not left[thread]:
            return None
        kind, name, *more = left[thread].pop(0)
        if kind == "wait" and values[name] < more[0]:
            return None
        if kind == "add":
            values[name] += more[0]
        if kind == "copy":
            values[name] = values[more[0]]
    return values, left


def next_threads(program, schedule):
    """The threads whose next step is possible behind a schedule."""
    return [thread for thread in range(len(program[2])) if after(program, schedule + (thread,)) is not None]


def all_runs(program):
    """All runs, whole or not, shorter ones first, then rising."""
    queue = [()]
    for run in queue:
        queue.extend([run + (thread,) for thread in next_threads(program, run)])
    return queue


def whole_runs(program):
    """All whole runs, shorter ones first, then rising."""
    return [run for run in all_runs(program) if not next_threads(program, run)]


def steps_of(program, run):
    """For each step of a run (thread, which one of it, the step)."""
    counts = [run[:k].count(thread) for k, thread in enumerate(run)]
    return [(thread, count, program[2][thread][count]) for thread, count in zip(run, counts)]


def are_dependent(one, other):
    """Whether two steps, as steps_of tells them, are dependent; straight from the kinds."""
    (thread, _, (kind, *names)), (beside, _, (other_kind, *other_names)) = one, other
    touched = {name for name in names if isinstance(name, str)}
    by_other = {name for name in other_names if isinstance(name, str)}
    changed = {names[0]} if kind in ("add", "copy") else set()
    changed_by_other = {other_names[0]} if other_kind in ("add", "copy") else set()
    return thread == beside or bool(touched & by_other & (changed | changed_by_other))


def alike_runs(program, run):
    """All runs that are alike one, rising, by exchanges of neighbouring steps that are not dependent."""
    found = {run}
    queue = [run]
    for now in queue:
        steps = steps_of(program, now)
        for k in range(len(now) - 1):
            other = now[:k] + (now[k + 1], now[k]) + now[k + 2:]
            if not are_dependent(steps[k], steps[k + 1]) and other not in found:
                found.add(other)
                queue.append(other)
    return sorted(found)


def beginnings(alike):
    """All beginnings of some runs, shorter ones first, then rising."""
    return sorted({run[:k] for run in alike for k in range(len(run) + 1)}, key=lambda run: (len(run), run))


def counted(program, run):
    """How many steps of each thread there are in a run."""
    return tuple(run.count(thread) for thread in range(len(program[2])))


def holds(program, run, condition):
    """Whether a condition holds behind a run."""
    return after(program, run)[0][condition[0]] >= condition[1]
