"""What the tests share: the calls' numbers, written calls, and ways to look at what came of them."""

from linkwatches.state import World
from linkwatches.world import answer_of, answers

START, CHILD, LINK, CUT, WATCH, UNWATCH, ENDS, STOP = range(8)
HIGHEST = 4294967295

# One call of each sort by the process p, on q where it tells two, that fits if both are there.
BY_P_ON_Q = {
    CHILD: lambda p, q: [CHILD, p, 0],
    LINK: lambda p, q: [LINK, p, q],
    CUT: lambda p, q: [CUT, p, q],
    WATCH: lambda p, q: [WATCH, p, q],
    UNWATCH: lambda p, q: [UNWATCH, p, 1],
    ENDS: lambda p, q: [ENDS, p, 0],
    STOP: lambda p, q: [STOP, p, q, 0],
}


def flat(rows):
    return [number for row in rows for number in row]


def split(told):
    rows = []
    at = 0
    while at < len(told):
        behind = at + 1 + told[at]
        rows.append(told[at + 1:behind])
        at = behind
    return rows


def asked(*calls):
    """The answers of these calls, one list each, as `answers` tells them."""
    return split(answers(flat(calls)))


def last(*calls):
    return asked(*calls)[-1]


def made(*calls):
    """The world behind these calls, none of which is refused."""
    world = World()
    for call in calls:
        if answer_of(world, call)[0] < 0:
            raise ValueError(call)
    return world


def starts(count):
    return [[START] for each in range(count)]


def with_signals(count):
    """Three processes; 1 has the watch 1 of 2, a link to 2 that holds, and `count` signals are on their way."""
    first = starts(3) + [[WATCH, 1, 2], [LINK, 1, 2]]
    return made(*first, *[[STOP, 3, 3, 0] for each in range(count - 2)])


def picture(world):
    """All that the world holds, with the order of its dicts, as a text."""
    return repr((
        {number: vars(process) for number, process in world.processes.items()},
        world.signals,
        world.last_begun,
    ))
