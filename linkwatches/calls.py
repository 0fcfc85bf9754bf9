"""What the calls do and answer, once it is known that they are not refused."""

from linkwatches.arrivals import arrive
from linkwatches.codes import CALL_BOX, CALL_CHILD, CALL_CUT, CALL_DELIVER, CALL_ENDS, CALL_LINK, CALL_PROCESS
from linkwatches.codes import CALL_SAY, CALL_START, CALL_STOP, CALL_TRAP, CALL_TURNS, CALL_UNWATCH, CALL_WATCH
from linkwatches.codes import SIGNAL_CUT, SIGNAL_LINK, SIGNAL_STOP, SIGNAL_UNWATCH, SIGNAL_WATCH, SIGNAL_WORD
from linkwatches.ending import end_process
from linkwatches.state import HOLDS
from linkwatches.telling import air, box, process

HOW_LINKED = 1
HOW_WATCHED = 2


def carry_out(world, call):
    kind = call[0]
    if kind == CALL_START:
        return start(world)
    if kind == CALL_CHILD:
        return child(world, call[1], call[2])
    if kind == CALL_LINK:
        return link(world, call[1], call[2])
    if kind == CALL_CUT:
        return cut(world, call[1], call[2])
    if kind == CALL_WATCH:
        return watch(world, call[1], call[2])
    if kind == CALL_UNWATCH:
        return unwatch(world, call[1], call[2])
    if kind == CALL_ENDS:
        return ends(world, call[1], call[2])
    if kind == CALL_STOP:
        return stop(world, call[1], call[2], call[3])
    if kind == CALL_TRAP:
        return trap(world, call[1], call[2])
    if kind == CALL_SAY:
        return say(world, call[1], call[2], call[3])
    if kind == CALL_DELIVER:
        return deliver(world, call[1], call[2])
    if kind == CALL_TURNS:
        return turns(world, call[1])
    if kind == CALL_BOX:
        return box(world, call[1])
    if kind == CALL_PROCESS:
        return process(world, call[1])
    return air(world)


def start(world):
    return [world.add_process()]


def child(world, p, how):
    new = world.add_process()
    parent = world.processes[p]
    born = world.processes[new]
    number = 0
    if how == HOW_LINKED:
        parent.links[new] = HOLDS
        born.links[p] = HOLDS
    if how == HOW_WATCHED:
        number = world.begin_number()
        parent.watches[number] = new
        born.watchers[number] = p
    return [new, number]


def link(world, p, q):
    linking = world.processes[p]
    if linking.holds_link(q):
        return [0]
    linking.links[q] = HOLDS
    world.send(p, q, (SIGNAL_LINK,))
    return [1]


def cut(world, p, q):
    cutting = world.processes[p]
    if not cutting.holds_link(q):
        return [0]
    number = world.begin_number()
    cutting.links[q] = number
    world.send(p, q, (SIGNAL_CUT, number))
    return [1]


def watch(world, p, q):
    watching = world.processes[p]
    number = world.begin_number()
    watching.watches[number] = q
    world.send(p, q, (SIGNAL_WATCH, number))
    return [number]


def unwatch(world, p, k):
    watching = world.processes[p]
    if k not in watching.watches:
        return [0]
    q = watching.watches.pop(k)
    world.send(p, q, (SIGNAL_UNWATCH, k))
    return [1]


def ends(world, p, why):
    sent_before = len(world.signals)
    end_process(world, p, why)
    return [len(world.signals) - sent_before]


def stop(world, p, q, why):
    world.send(p, q, (SIGNAL_STOP, why))
    return [0]


def trap(world, p, yes):
    trapping = world.processes[p]
    trapped = trapping.traps
    trapping.traps = yes == 1
    return [int(trapped)]


def say(world, p, q, n):
    world.send(p, q, (SIGNAL_WORD, n))
    return [0]


def deliver(world, p, q):
    return list(arrive(world, world.place_of_first(p, q)))


def turns(world, n):
    arrived = 0
    while arrived < n and len(world.signals) > 0:
        arrive(world, 0)
        arrived += 1
    return [arrived]
