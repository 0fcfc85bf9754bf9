"""A list of calls on a new world, and the list of what is answered of them."""

from linkwatches.calls import carry_out
from linkwatches.codes import NOT_REFUSED, NUMBERS_BEHIND
from linkwatches.refusals import refusal_of
from linkwatches.state import World


def answers(calls):
    world = World()
    told = []
    at = 0
    while at < len(calls):
        behind = at + 1 + NUMBERS_BEHIND[calls[at]]
        answer = answer_of(world, calls[at:behind])
        told.append(len(answer))
        told.extend(answer)
        at = behind
    return told


def answer_of(world, call):
    refusal = refusal_of(world, call)
    if refusal != NOT_REFUSED:
        return [refusal]
    return carry_out(world, call)
