"""How an end comes to a process, how it ends, and who is told of it."""

from linkwatches.codes import SIGNAL_ENDED, SIGNAL_GONE, SIGNAL_UNWATCH, WHY_AS_IT_SHOULD


def let_end_come(world, q, why, note):
    reached = world.processes[q]
    if reached.traps:
        reached.notes.append(note)
    elif why != WHY_AS_IT_SHOULD:
        end_process(world, q, why)


def end_process(world, p, why):
    ending = world.processes[p]
    tell_linked(world, p, why)
    tell_watchers(world, p, why)
    tell_watched(world, p)
    ending.living = False
    ending.why = why
    ending.links = {}
    ending.watches = {}
    ending.watchers = {}


def tell_linked(world, p, why):
    ending = world.processes[p]
    for q in sorted(ending.links):
        if ending.holds_link(q):
            world.send(p, q, (SIGNAL_ENDED, why))


def tell_watchers(world, p, why):
    for number, q in world.processes[p].watchers.items():
        world.send(p, q, (SIGNAL_GONE, number, why))


def tell_watched(world, p):
    for number, q in world.processes[p].watches.items():
        world.send(p, q, (SIGNAL_UNWATCH, number))
