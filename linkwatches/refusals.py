"""Which calls are refused. Nothing here changes the world, so all is as it was behind a refusal."""

from linkwatches.codes import CALL_CHILD, CALL_CUT, CALL_ENDS, CALL_LINK, CALL_START, CALL_STOP
from linkwatches.codes import CALL_UNWATCH, CALL_WATCH
from linkwatches.codes import NOT_REFUSED, REFUSED_ENDED, REFUSED_FULL, REFUSED_MISFIT

MOST_PROCESSES = 12
# A call that sends is refused once so many are on their way; an end still sends all it has to.
ENOUGH_SIGNALS = 200
MOST_HOW = 2
MOST_WHY = 99


def refusal_of(world, call):
    # The order is the document's: of several refusals the one told first is answered.
    if is_misfit(world, call):
        return REFUSED_MISFIT
    if is_by_ended(world, call):
        return REFUSED_ENDED
    if lacks_room(world, call):
        return REFUSED_FULL
    return NOT_REFUSED


def is_misfit(world, call):
    kind = call[0]
    if kind == CALL_START:
        return False
    if call[1] not in world.processes:
        return True
    if kind == CALL_CHILD:
        return call[2] > MOST_HOW
    if kind in (CALL_LINK, CALL_CUT, CALL_WATCH):
        return call[2] not in world.processes or call[1] == call[2]
    if kind == CALL_ENDS:
        return call[2] > MOST_WHY
    if kind == CALL_STOP:
        return call[2] not in world.processes or call[3] > MOST_WHY
    return False


def is_by_ended(world, call):
    if call[0] == CALL_START:
        return False
    return not world.processes[call[1]].living


def lacks_room(world, call):
    kind = call[0]
    if kind in (CALL_START, CALL_CHILD):
        return len(world.processes) >= MOST_PROCESSES
    if kind in (CALL_LINK, CALL_CUT, CALL_WATCH, CALL_STOP):
        return len(world.signals) >= ENOUGH_SIGNALS
    # Without the watch nothing would be sent, so that needs no room.
    if kind == CALL_UNWATCH and call[2] in world.processes[call[1]].watches:
        return len(world.signals) >= ENOUGH_SIGNALS
    return False
