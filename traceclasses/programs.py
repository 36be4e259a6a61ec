"""Programs ("program", values, threads): their steps, and what is so behind a schedule."""

from traceclasses.errors import ScheduleFault


def values_behind(program, schedule):
    """The rising tuple of (name, value) behind a schedule; raises ScheduleFault."""
    return point_behind(program, schedule)[1]


def possible(program, schedule):
    """The rising tuple of the threads whose next step is possible behind a schedule."""
    return ready(program, point_behind(program, schedule))


def touched(step):
    """(rising text of the names that a step touches, text of the name that it changes or "")."""
    kind, name = step[:2]
    if kind == "copy":
        return ("".join(sorted({name, step[2]})), name)
    return (name, name if kind == "add" else "")


def beginning(program):
    """The point (how many steps each thread has made, values) at which a program begins."""
    return (tuple([0 for _ in program[2]]), program[1])


def point_behind(program, schedule):
    """The point behind a schedule; raises ScheduleFault."""
    point = beginning(program)
    for number, thread in enumerate(schedule):
        if thread not in ready(program, point):
            raise ScheduleFault(number)
        point = stepped(program, point, thread)
    return point


def next_steps(program, point):
    """A dict: by the threads that have a step left at a point their next step; rising."""
    made = point[0]
    return {thread: steps[made[thread]] for thread, steps in enumerate(program[2]) if made[thread] < len(steps)}


def ready(program, point):
    """The rising tuple of the threads whose next step is possible at a point."""
    return tuple([thread for thread, step in next_steps(program, point).items() if is_possible(point[1], step)])


def is_possible(values, step):
    """Whether a step is possible with these values."""
    return step[0] != "wait" or dict(values)[step[1]] >= step[2]


def stepped(program, point, thread):
    """The point behind the next step of a thread."""
    made, values = point
    step = program[2][thread][made[thread]]
    return (one_more(made, thread), values_after(values, step))


def one_more(made, thread):
    """The numbers of steps with one more of a thread."""
    return made[:thread] + (made[thread] + 1,) + made[thread + 1:]


def values_after(values, step):
    """The values behind a step."""
    name = touched(step)[1]
    if name == "":
        return values
    known = dict(values)
    known[name] = known[step[2]] if step[0] == "copy" else known[name] + step[2]
    return tuple(known.items())
