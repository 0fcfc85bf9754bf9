"""Which calls are refused. Nothing here changes the world, so all is as it was behind a refusal."""

from linkwatches.codes import CALL_AIR, CALL_CHILD, CALL_CUT, CALL_DELIVER, CALL_ENDS, CALL_LINK, CALL_SAY
from linkwatches.codes import CALL_START, CALL_STOP, CALL_TRAP, CALL_TURNS, CALL_UNWATCH, CALL_WATCH
from linkwatches.codes import NOT_REFUSED, REFUSED_ENDED, REFUSED_FULL, REFUSED_MISFIT, REFUSED_NONE

MOST_PROCESSES = 12
# A call that sends is refused once so many are on their way; an end or an arrival still sends all it has to.
ENOUGH_SIGNALS = 200
MOST_HOW = 2
MOST_WHY = 99
MOST_YES = 1
MOST_TURNS = 1000


def refusal_of(world, call):
    # The order is the document's: of several refusals the one told first is answered.
    if lacks_process(world, call) or is_misfit(call):
        return REFUSED_MISFIT
    if is_by_ended(world, call):
        return REFUSED_ENDED
    if lacks_room(world, call):
        return REFUSED_FULL
    if lacks_signal(world, call):
        return REFUSED_NONE
    return NOT_REFUSED


def lacks_process(world, call):
    kind = call[0]
    if kind in (CALL_START, CALL_TURNS, CALL_AIR):
        return False
    if call[1] not in world.processes:
        return True
    if kind in (CALL_LINK, CALL_CUT, CALL_WATCH, CALL_STOP, CALL_SAY, CALL_DELIVER):
        return call[2] not in world.processes
    return False


def is_misfit(call):
    kind = call[0]
    if kind == CALL_CHILD:
        return call[2] > MOST_HOW
    if kind in (CALL_LINK, CALL_CUT, CALL_WATCH):
        return call[1] == call[2]
    if kind == CALL_ENDS:
        return call[2] > MOST_WHY
    if kind == CALL_STOP:
        return call[3] > MOST_WHY
    if kind == CALL_TRAP:
        return call[2] > MOST_YES
    if kind == CALL_TURNS:
        return call[1] > MOST_TURNS
    return False


def is_by_ended(world, call):
    kind = call[0]
    # Whoever only looks, or lets a signal arrive, may tell one who has ended.
    if kind in (CALL_CHILD, CALL_LINK, CALL_CUT, CALL_WATCH, CALL_UNWATCH, CALL_ENDS, CALL_STOP, CALL_TRAP, CALL_SAY):
        return not world.processes[call[1]].living
    return False


def lacks_room(world, call):
    kind = call[0]
    if kind in (CALL_START, CALL_CHILD):
        return len(world.processes) >= MOST_PROCESSES
    if kind in (CALL_LINK, CALL_CUT, CALL_WATCH, CALL_STOP, CALL_SAY):
        return len(world.signals) >= ENOUGH_SIGNALS
    # Without the watch nothing would be sent, so that needs no room.
    if kind == CALL_UNWATCH and call[2] in world.processes[call[1]].watches:
        return len(world.signals) >= ENOUGH_SIGNALS
    return False


def lacks_signal(world, call):
    return call[0] == CALL_DELIVER and world.place_of_first(call[1], call[2]) is None
