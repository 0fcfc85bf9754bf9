"""What a signal does when it arrives."""

from linkwatches.codes import NOTE_ENDED, NOTE_GONE, NOTE_STOP, NOTE_WORD
from linkwatches.codes import SIGNAL_CUT, SIGNAL_ENDED, SIGNAL_GONE, SIGNAL_HEARD, SIGNAL_LINK, SIGNAL_STOP
from linkwatches.codes import SIGNAL_UNWATCH, SIGNAL_WATCH, SIGNAL_WORD
from linkwatches.codes import WHY_KILLED, WHY_NOBODY, WHY_TO_BE_KILLED
from linkwatches.ending import end_process, let_end_come
from linkwatches.state import HOLDS


def arrive(world, place):
    sent = world.signals.pop(place)
    signal = sent[2]
    if world.processes[sent[1]].living:
        arrive_at_living(world, sent[0], sent[1], signal)
    else:
        arrive_at_ended(world, sent[0], sent[1], signal)
    return signal


def arrive_at_living(world, p, q, signal):
    kind = signal[0]
    reached = world.processes[q]
    if kind == SIGNAL_WORD:
        reached.notes.append((NOTE_WORD, p, signal[1]))
    elif kind == SIGNAL_LINK:
        # A link that is being cut stays so: its cut is still on its way to p, and takes p's side away too.
        reached.links.setdefault(p, HOLDS)
    elif kind == SIGNAL_CUT:
        take_cut(world, p, q, signal[1])
    elif kind == SIGNAL_HEARD:
        take_heard(reached, p, signal[1])
    elif kind == SIGNAL_ENDED:
        take_ended(world, p, q, signal[1])
    elif kind == SIGNAL_STOP:
        take_stop(world, p, q, signal[1])
    elif kind == SIGNAL_WATCH:
        reached.watchers[signal[1]] = p
    elif kind == SIGNAL_UNWATCH:
        reached.watchers.pop(signal[1], None)
    else:
        take_gone(reached, signal[1], signal[2])


def arrive_at_ended(world, p, q, signal):
    kind = signal[0]
    if kind == SIGNAL_LINK:
        world.send(q, p, (SIGNAL_ENDED, WHY_NOBODY))
    elif kind == SIGNAL_CUT:
        world.send(q, p, (SIGNAL_HEARD, signal[1]))
    elif kind == SIGNAL_WATCH:
        world.send(q, p, (SIGNAL_GONE, signal[1], WHY_NOBODY))


def take_cut(world, p, q, number):
    reached = world.processes[q]
    if reached.holds_link(p):
        reached.links.pop(p)
    world.send(q, p, (SIGNAL_HEARD, number))


def take_heard(reached, p, number):
    # A link that was set again meanwhile holds, or is being cut with a later number: it stays.
    if p in reached.links and reached.links[p] == number:
        reached.links.pop(p)


def take_ended(world, p, q, why):
    reached = world.processes[q]
    held = reached.holds_link(p)
    reached.links.pop(p, None)
    if held:
        let_end_come(world, q, why, (NOTE_ENDED, p, why))


def take_stop(world, p, q, why):
    if why == WHY_TO_BE_KILLED:
        end_process(world, q, WHY_KILLED)
    else:
        let_end_come(world, q, why, (NOTE_STOP, p, why))


def take_gone(reached, number, why):
    if number in reached.watches:
        reached.watches.pop(number)
        reached.notes.append((NOTE_GONE, number, why))
