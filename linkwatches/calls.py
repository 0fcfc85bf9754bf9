"""What the calls do and answer, once it is known that they are not refused."""

from linkwatches.codes import CALL_CHILD, CALL_CUT, CALL_ENDS, CALL_LINK, CALL_START
from linkwatches.codes import CALL_UNWATCH, CALL_WATCH
from linkwatches.codes import SIGNAL_CUT, SIGNAL_LINK, SIGNAL_STOP, SIGNAL_UNWATCH, SIGNAL_WATCH
from linkwatches.ending import end_process
from linkwatches.state import HOLDS

HOW_LINKED = 1
HOW_WATCHED = 2


def carry_out(world, call):
    kind = call[0]
    if kind == CALL_START:
        return start(world)
    if kind == CALL_CHILD:
        return child(world, call[1], call[2])
    if kind == CALL_LINK:
        return link(world, call[1], call[2])
    if kind == CALL_CUT:
        return cut(world, call[1], call[2])
    if kind == CALL_WATCH:
        return watch(world, call[1], call[2])
    if kind == CALL_UNWATCH:
        return unwatch(world, call[1], call[2])
    if kind == CALL_ENDS:
        return ends(world, call[1], call[2])
    return stop(world, call[1], call[2], call[3])


def start(world):
    return [world.add_process()]


def child(world, p, how):
    new = world.add_process()
    parent = world.processes[p]
    born = world.processes[new]
    number = 0
    if how == HOW_LINKED:
        parent.links[new] = HOLDS
        born.links[p] = HOLDS
    if how == HOW_WATCHED:
        number = world.begin_number()
        parent.watches[number] = new
        born.watchers[number] = p
    return [new, number]


def link(world, p, q):
    linking = world.processes[p]
    if linking.holds_link(q):
        return [0]
    linking.links[q] = HOLDS
    world.send(p, q, (SIGNAL_LINK,))
    return [1]


def cut(world, p, q):
    cutting = world.processes[p]
    if not cutting.holds_link(q):
        return [0]
    number = world.begin_number()
    cutting.links[q] = number
    world.send(p, q, (SIGNAL_CUT, number))
    return [1]


def watch(world, p, q):
    watching = world.processes[p]
    number = world.begin_number()
    watching.watches[number] = q
    world.send(p, q, (SIGNAL_WATCH, number))
    return [number]


def unwatch(world, p, k):
    watching = world.processes[p]
    if k not in watching.watches:
        return [0]
    q = watching.watches.pop(k)
    world.send(p, q, (SIGNAL_UNWATCH, k))
    return [1]


def ends(world, p, why):
    sent_before = len(world.signals)
    end_process(world, p, why)
    return [len(world.signals) - sent_before]


def stop(world, p, q, why):
    world.send(p, q, (SIGNAL_STOP, why))
    return [0]
