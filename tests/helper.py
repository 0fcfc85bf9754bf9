"""What the tests share: the calls' numbers, written calls, and ways to look at what came of them."""

from collections import namedtuple

from linkwatches.state import World
from linkwatches.world import answer_of, answers

(START, CHILD, LINK, CUT, WATCH, UNWATCH, ENDS, STOP,
 TRAP, SAY, DELIVER, TURNS, BOX, PROCESS, AIR) = range(15)
HIGHEST = 4294967295

# One call of each sort by the process p, on q where it tells two, that fits if both are there.
BY_P_ON_Q = {
    CHILD: lambda p, q: [CHILD, p, 0],
    LINK: lambda p, q: [LINK, p, q],
    CUT: lambda p, q: [CUT, p, q],
    WATCH: lambda p, q: [WATCH, p, q],
    UNWATCH: lambda p, q: [UNWATCH, p, 1],
    ENDS: lambda p, q: [ENDS, p, 0],
    STOP: lambda p, q: [STOP, p, q, 0],
    TRAP: lambda p, q: [TRAP, p, 1],
    SAY: lambda p, q: [SAY, p, q, 0],
    DELIVER: lambda p, q: [DELIVER, p, q],
    BOX: lambda p, q: [BOX, p],
    PROCESS: lambda p, q: [PROCESS, p],
}

# All that can be asked of a world without changing it, whoever is there.
LOOKS = [[AIR]] + [[look, p] for look in (PROCESS, BOX) for p in range(1, 13)]

# How many numbers tell a signal, by its first.
SIGNAL_SIZES = (2, 1, 2, 2, 2, 2, 2, 2, 3)

Seen = namedtuple("Seen", "lives why traps links watches watched")


def flat(rows):
    return [number for row in rows for number in row]


def split(told):
    rows = []
    at = 0
    while at < len(told):
        behind = at + 1 + told[at]
        rows.append(told[at + 1:behind])
        at = behind
    return rows


def asked(*calls):
    """The answers of these calls, one list each, as `answers` tells them."""
    return split(answers(flat(calls)))


def last(*calls):
    return asked(*calls)[-1]


def made(*calls):
    """The world behind these calls, none of which is refused."""
    world = World()
    for call in calls:
        if answer_of(world, call)[0] < 0:
            raise ValueError(call)
    return world


def starts(count):
    return [[START] for each in range(count)]


def with_signals(count):
    """Three processes; 1 has the watch 1 of 2, a link to 2 that holds, and `count` signals are on their way."""
    first = starts(3) + [[WATCH, 1, 2], [LINK, 1, 2]]
    return made(*first, *[[STOP, 3, 3, 0] for each in range(count - 2)])


def picture(world):
    """All that the world holds, with the order of its dicts, as a text."""
    return repr((
        {number: vars(process) for number, process in world.processes.items()},
        world.signals,
        world.last_begun,
    ))


def looks(world):
    return [answer_of(world, look) for look in LOOKS]


def take(row, size):
    taken = tuple(row[:size])
    if len(taken) != size:
        raise ValueError("too short")
    row[:size] = []
    return taken


def take_rows(row, size):
    return [take(row, size) for each in range(take(row, 1)[0])]


def finished(row, told):
    if row:
        raise ValueError("too long")
    return told


def read_box(row):
    row = list(row)
    return finished(row, take_rows(row, 3))


def read_process(row):
    row = list(row)
    return finished(row, Seen(*take(row, 3), take_rows(row, 2), take_rows(row, 2), take_rows(row, 2)))


def read_air(row):
    row = list(row)
    told = [take(row, 2) + (take(row, SIGNAL_SIZES[row[0]]),) for each in range(take(row, 1)[0])]
    return finished(row, told)


def box_of(p, *calls):
    """The notes that box tells of p behind these calls."""
    return read_box(last(*calls, [BOX, p]))


def seen(p, *calls):
    """What process tells of p behind these calls."""
    return read_process(last(*calls, [PROCESS, p]))


def in_air(*calls):
    """The signals that air tells behind these calls, each from whom, to whom, and the signal."""
    return read_air(last(*calls, [AIR]))
