"""Points 1 to 3 of the promises: each refusal alone, the one told first of several, and that all stays."""

import random
import unittest

from helper import AIR, BOX, CHILD, CUT, DELIVER, ENDS, HIGHEST, LINK, PROCESS, SAY, START, STOP, TRAP, TURNS
from helper import BY_P_ON_Q, UNWATCH, WATCH
from helper import asked, flat, last, looks, made, picture, starts, with_signals
from linkwatches.world import answer_of, answers

TELLING_TWO = (LINK, CUT, WATCH, STOP, SAY, DELIVER)
BY_THE_LIVING = (CHILD, LINK, CUT, WATCH, UNWATCH, ENDS, STOP, TRAP, SAY)


class NoSuchProcess(unittest.TestCase):
    def test_p(self):
        for written in BY_P_ON_Q.values():
            for p in (0, 3, 12, HIGHEST):
                self.assertEqual(last(*starts(2), written(p, 1)), [-1])

    def test_q(self):
        for kind in TELLING_TWO:
            for q in (0, 3, 12, HIGHEST):
                self.assertEqual(last(*starts(2), BY_P_ON_Q[kind](1, q)), [-1])

    def test_in_a_world_without_any(self):
        for written in BY_P_ON_Q.values():
            self.assertEqual(asked(written(1, 2)), [[-1]])

    def test_turns_and_air_tell_no_process(self):
        self.assertEqual(asked([TURNS, 0], [TURNS, 1000], [AIR]), [[0], [0], [0]])


class Misfits(unittest.TestCase):
    def test_how(self):
        self.assertEqual(last([START], [CHILD, 1, 2]), [2, 1])
        for how in (3, 4, HIGHEST):
            self.assertEqual(last([START], [CHILD, 1, how]), [-1])

    def test_both_the_same(self):
        for kind in (LINK, CUT, WATCH):
            self.assertEqual(last(*starts(2), [kind, 2, 2]), [-1])

    def test_why(self):
        self.assertEqual(last([START], [ENDS, 1, 99]), [0])
        self.assertEqual(last([START], [STOP, 1, 1, 99]), [0])
        for why in (100, 101, HIGHEST):
            self.assertEqual(last([START], [ENDS, 1, why]), [-1])
            self.assertEqual(last([START], [STOP, 1, 1, why]), [-1])

    def test_yes(self):
        for yes in (0, 1):
            self.assertEqual(last([START], [TRAP, 1, yes]), [0])
        for yes in (2, 3, HIGHEST):
            self.assertEqual(last([START], [TRAP, 1, yes]), [-1])
            self.assertEqual(last([START], [TRAP, 1, 1], [TRAP, 1, yes]), [-1])

    def test_how_many_turns(self):
        for n in (0, 999, 1000):
            self.assertEqual(last(*starts(2), [SAY, 1, 2, 5], [TURNS, n]), [min(n, 1)])
        for n in (1001, 1002, HIGHEST):
            self.assertEqual(last(*starts(2), [SAY, 1, 2, 5], [TURNS, n]), [-1])
            self.assertEqual(asked([TURNS, n]), [[-1]])

    def test_say_stop_and_deliver_may_tell_the_same_twice(self):
        self.assertEqual(asked([START], [SAY, 1, 1, 5], [STOP, 1, 1, 0], [DELIVER, 1, 1])[1:], [[0], [0], [0, 5]])


class Ended(unittest.TestCase):
    def test_p(self):
        for kind in BY_THE_LIVING:
            self.assertEqual(last(*starts(2), [ENDS, 1, 0], BY_P_ON_Q[kind](1, 2)), [-8])

    def test_p_who_was_ended_by_a_signal(self):
        for kind in BY_THE_LIVING:
            self.assertEqual(last(*starts(2), [STOP, 2, 1, 1], [TURNS, 1], BY_P_ON_Q[kind](1, 2)), [-8])

    def test_trap_either_way(self):
        for yes in (0, 1):
            self.assertEqual(last([START], [TRAP, 1, 1], [ENDS, 1, 0], [TRAP, 1, yes]), [-8])

    def test_say_to_itself(self):
        self.assertEqual(last([START], [ENDS, 1, 0], [SAY, 1, 1, 0]), [-8])

    def test_deliver_box_and_process_may_tell_one_who_has_ended(self):
        ended = starts(2) + [[SAY, 1, 2, 5], [SAY, 2, 1, 6], [ENDS, 1, 4]]
        self.assertEqual(last(*ended, [DELIVER, 1, 2]), [0, 5])
        self.assertEqual(last(*ended, [DELIVER, 2, 1]), [0, 6])
        self.assertEqual(last(*ended, [BOX, 1]), [0])
        self.assertEqual(last(*ended, [PROCESS, 1]), [0, 4, 0, 0, 0, 0])

    def test_unwatch_whether_it_had_the_watch_or_not(self):
        self.assertEqual(last(*starts(2), [WATCH, 1, 2], [ENDS, 1, 0], [UNWATCH, 1, 1]), [-8])
        self.assertEqual(last(*starts(2), [ENDS, 1, 0], [UNWATCH, 1, 7]), [-8])

    def test_stop_of_itself(self):
        self.assertEqual(last([START], [ENDS, 1, 0], [STOP, 1, 1, 0]), [-8])

    def test_with_every_why(self):
        for why in range(100):
            self.assertEqual(last([START], [ENDS, 1, why], [ENDS, 1, why]), [-8])

    def test_q_is_no_reason(self):
        for kind in (LINK, CUT, WATCH, STOP, SAY):
            self.assertGreaterEqual(last(*starts(2), [ENDS, 2, 0], BY_P_ON_Q[kind](1, 2))[0], 0)


class NoneOnItsWay(unittest.TestCase):
    def test_at_all(self):
        for call in ([DELIVER, 1, 2], [DELIVER, 2, 1], [DELIVER, 1, 1]):
            self.assertEqual(last(*starts(2), call), [-5])

    def test_between_these_two(self):
        said = starts(3) + [[SAY, 1, 2, 5], [SAY, 3, 3, 6]]
        for p, q in ((2, 1), (1, 1), (2, 2), (1, 3), (3, 1), (2, 3), (3, 2)):
            self.assertEqual(last(*said, [DELIVER, p, q]), [-5])
        for p, q in ((1, 2), (3, 3)):
            self.assertEqual(last(*said, [DELIVER, p, q])[0], 0)

    def test_any_more(self):
        said = starts(2) + [[SAY, 1, 2, 5]]
        self.assertEqual(asked(*said, [DELIVER, 1, 2], [DELIVER, 1, 2])[3:], [[0, 5], [-5]])
        self.assertEqual(last(*said, [TURNS, 1], [DELIVER, 1, 2]), [-5])

    def test_with_those_who_have_ended(self):
        ended = starts(2) + [[ENDS, 1, 0], [ENDS, 2, 0]]
        for call in ([DELIVER, 1, 2], [DELIVER, 2, 1], [DELIVER, 1, 1]):
            self.assertEqual(last(*ended, call), [-5])

    def test_turns_is_not_refused_for_it(self):
        self.assertEqual(last(*starts(2), [TURNS, 1]), [0])


class TwelveProcesses(unittest.TestCase):
    def test_start(self):
        self.assertEqual(asked(*starts(13))[11:], [[12], [-6]])

    def test_child(self):
        for how in (0, 1, 2):
            self.assertEqual(last(*starts(11), [CHILD, 3, how])[0], 12)
            self.assertEqual(last(*starts(12), [CHILD, 3, how]), [-6])

    def test_those_who_have_ended_count(self):
        ended = [[ENDS, p, 0] for p in range(2, 13)]
        self.assertEqual(last(*starts(12), *ended, [START]), [-6])
        self.assertEqual(last(*starts(12), *ended, [CHILD, 1, 0]), [-6])

    def test_other_calls_go_on(self):
        for written in BY_P_ON_Q.values():
            if written(1, 12)[0] != CHILD:
                self.assertGreaterEqual(last(*starts(12), [SAY, 1, 12, 0], written(1, 12))[0], 0)
        self.assertEqual(last(*starts(12), [SAY, 1, 12, 0], [TURNS, 5]), [1])
        self.assertEqual(last(*starts(12), [AIR]), [0])


class TwoHundredSignals(unittest.TestCase):
    # A hundred calls do not reach 200 signals: each adds at most two, sent or to be sent by an end, the first none.
    SENDING = ([LINK, 2, 3], [CUT, 1, 2], [WATCH, 3, 1], [UNWATCH, 1, 1], [STOP, 2, 2, 0], [SAY, 1, 2, 0])
    # These would send nothing if there were room, and are refused for want of it all the same.
    IDLE = ([LINK, 1, 2], [CUT, 2, 1])

    def test_199(self):
        for call in self.SENDING:
            world = with_signals(199)
            self.assertGreaterEqual(answer_of(world, call)[0], 0)
            self.assertEqual(len(world.signals), 200)
        for call in self.IDLE:
            self.assertEqual(answer_of(with_signals(199), call), [0])

    def test_200(self):
        for call in self.SENDING + self.IDLE:
            self.assertEqual(answer_of(with_signals(200), call), [-6])

    def test_more_than_200(self):
        for call in ([LINK, 3, 2], [CUT, 3, 2], [WATCH, 3, 2], [STOP, 3, 2, 0], [SAY, 3, 2, 0], [SAY, 3, 3, 0]):
            world = with_signals(200)
            self.assertEqual(answer_of(world, [ENDS, 1, 0]), [2])
            self.assertEqual(len(world.signals), 202)
            self.assertEqual(answer_of(world, call), [-6])

    def test_unwatch_without_the_watch_needs_no_room(self):
        self.assertEqual(answer_of(with_signals(200), [UNWATCH, 1, 2]), [0])
        self.assertEqual(answer_of(with_signals(200), [UNWATCH, 2, 1]), [0])

    def test_start_child_and_ends_need_no_room(self):
        self.assertEqual(answer_of(with_signals(200), [START]), [4])
        self.assertEqual(answer_of(with_signals(200), [CHILD, 1, 2]), [4, 2])
        self.assertEqual(answer_of(with_signals(200), [ENDS, 1, 3]), [2])

    def test_trap_and_looking_need_no_room(self):
        world = with_signals(200)
        self.assertEqual(answer_of(world, [TRAP, 1, 1]), [0])
        self.assertEqual(answer_of(world, [BOX, 1]), [0])
        self.assertEqual(answer_of(world, [PROCESS, 1]), [1, 0, 1, 1, 2, 0, 1, 1, 2, 0])
        self.assertEqual(answer_of(world, [AIR])[0], 200)

    def test_an_arrival_sends_all_it_has_to(self):
        world = with_signals(200)
        answer_of(world, [ENDS, 2, 0])
        # The watch and the link find one who has ended, and are answered.
        self.assertEqual(answer_of(world, [TURNS, 2]), [2])
        self.assertEqual(len(world.signals), 200)
        self.assertEqual(world.signals[-2:], [(2, 1, (8, 1, 3)), (2, 1, (4, 3))])
        world = with_signals(200)
        world.send(1, 1, (5, 1))
        self.assertEqual(answer_of(world, [DELIVER, 1, 1]), [5, 1])
        self.assertEqual(world.signals[-2:], [(1, 2, (4, 2)), (1, 2, (7, 1))])
        self.assertEqual(len(world.signals), 202)

    def test_room_comes_back_when_one_arrives(self):
        for arriving in ([DELIVER, 3, 3], [TURNS, 1]):
            world = with_signals(200)
            answer_of(world, arriving)
            self.assertEqual(answer_of(world, [SAY, 3, 1, 0]), [0])
            self.assertEqual(answer_of(world, [SAY, 3, 1, 0]), [-6])

    def test_a_hundred_calls_that_come_near_are_not_refused(self):
        calls = starts(2) + [[WATCH, 1, 2] for each in range(96)] + [[ENDS, 1, 0], [WATCH, 2, 1]]
        self.assertEqual(asked(*calls)[-2:], [[96], [97]])


class FirstOfSeveral(unittest.TestCase):
    def test_misfit_before_ended(self):
        ended = starts(2) + [[ENDS, 1, 0]]
        for call in ([CHILD, 1, 3], [LINK, 1, 1], [CUT, 1, 1], [WATCH, 1, 1], [LINK, 1, 3], [CUT, 1, 0],
                     [WATCH, 1, HIGHEST], [ENDS, 1, 100], [STOP, 1, 2, 100], [STOP, 1, 3, 0], [TRAP, 1, 2],
                     [SAY, 1, 3, 0], [SAY, 1, 0, 0]):
            self.assertEqual(last(*ended, call), [-1])

    def test_misfit_before_twelve(self):
        for call in ([CHILD, 0, 0], [CHILD, 13, 0], [CHILD, 1, 3]):
            self.assertEqual(last(*starts(12), call), [-1])

    def test_ended_before_twelve(self):
        self.assertEqual(last(*starts(12), [ENDS, 5, 0], [CHILD, 5, 0]), [-8])

    def test_misfit_before_ended_before_twelve(self):
        self.assertEqual(last(*starts(12), [ENDS, 5, 0], [CHILD, 5, 3]), [-1])

    def test_misfit_before_200(self):
        for call in ([LINK, 1, 1], [LINK, 1, 4], [CUT, 2, 2], [CUT, 0, 1], [WATCH, 1, 1], [WATCH, 4, 1],
                     [UNWATCH, 4, 1], [STOP, 1, 4, 0], [STOP, 1, 2, 100], [SAY, 1, 4, 0], [SAY, 0, 1, 0]):
            self.assertEqual(answer_of(with_signals(200), call), [-1])

    def test_ended_before_200(self):
        for call in ([LINK, 1, 2], [CUT, 1, 2], [WATCH, 1, 2], [UNWATCH, 1, 1], [STOP, 1, 2, 0], [SAY, 1, 2, 0]):
            world = with_signals(200)
            answer_of(world, [ENDS, 1, 0])
            self.assertEqual(answer_of(world, call), [-8])

    def test_misfit_before_ended_before_200(self):
        for call in ([LINK, 1, 1], [CUT, 1, 4], [WATCH, 1, 0], [ENDS, 1, 100], [STOP, 1, 1, 100], [SAY, 1, 4, 0]):
            world = with_signals(200)
            answer_of(world, [ENDS, 1, 0])
            self.assertEqual(answer_of(world, call), [-1])

    def test_misfit_before_none_on_its_way(self):
        for call in ([DELIVER, 1, 3], [DELIVER, 3, 1], [DELIVER, 0, 0], [DELIVER, HIGHEST, HIGHEST]):
            self.assertEqual(last(*starts(2), call), [-1])
            self.assertEqual(last(*starts(2), [SAY, 1, 2, 0], [ENDS, 1, 0], call), [-1])


class AllAsItWas(unittest.TestCase):
    def refused(self, world, call):
        before = picture(world)
        told_before = looks(world)
        answer = answer_of(world, call)
        self.assertEqual(len(answer), 1)
        self.assertLess(answer[0], 0)
        self.assertEqual(looks(world), told_before)
        self.assertEqual(picture(world), before)

    def test_behind_each_misfit(self):
        world = made(*starts(2), [CHILD, 1, 1], [CHILD, 1, 2], [WATCH, 1, 2])
        for call in ([CHILD, 9, 0], [CHILD, 1, 3], [LINK, 1, 1], [LINK, 1, 9], [CUT, 1, 1], [CUT, 9, 1],
                     [WATCH, 2, 2], [WATCH, 2, 9], [UNWATCH, 9, 1], [ENDS, 9, 0], [ENDS, 1, 100],
                     [STOP, 1, 9, 0], [STOP, 9, 1, 0], [STOP, 1, 1, 100], [TRAP, 9, 1], [TRAP, 1, 2],
                     [SAY, 1, 9, 0], [SAY, 9, 1, 0], [DELIVER, 1, 9], [DELIVER, 9, 2], [TURNS, 1001],
                     [TURNS, HIGHEST], [BOX, 9], [BOX, 0], [PROCESS, 9], [PROCESS, HIGHEST]):
            self.refused(world, call)

    def test_behind_each_call_of_one_who_has_ended(self):
        world = made([START], [CHILD, 1, 1], [CHILD, 1, 2], [SAY, 2, 1, 5], [TURNS, 1], [ENDS, 1, 4])
        for kind in BY_THE_LIVING:
            self.refused(world, BY_P_ON_Q[kind](1, 2))

    def test_behind_none_on_its_way(self):
        world = made([START], [CHILD, 1, 1], [CHILD, 1, 2], [SAY, 2, 1, 5], [SAY, 2, 2, 6], [TRAP, 1, 1])
        for call in ([DELIVER, 1, 2], [DELIVER, 1, 1], [DELIVER, 2, 3]):
            self.refused(world, call)

    def test_behind_twelve_processes(self):
        world = made(*starts(12))
        for call in ([START], [CHILD, 1, 0], [CHILD, 1, 1], [CHILD, 1, 2]):
            self.refused(world, call)

    def test_behind_200_signals(self):
        world = with_signals(200)
        for call in TwoHundredSignals.SENDING + TwoHundredSignals.IDLE:
            self.refused(world, call)

    def test_answers_without_the_refused_calls_are_the_same(self):
        # The walk is the same each time: its source of chance starts from a written number.
        chance = random.Random(20)
        for walk in range(300):
            calls = [chance_call(chance) for each in range(100)]
            rows = asked(*calls)
            taken = [call for call, row in zip(calls, rows) if row[0] >= 0]
            if taken:
                self.assertEqual(answers(flat(taken)), flat([[len(row)] + row for row in rows if row[0] >= 0]))


def chance_call(chance):
    kind = chance.choice((START, START, CHILD, CHILD, LINK, LINK, CUT, WATCH, WATCH, UNWATCH, ENDS, STOP,
                          TRAP, SAY, SAY, DELIVER, DELIVER, TURNS, BOX, PROCESS, AIR))
    sizes = {START: 0, STOP: 3, SAY: 3, TURNS: 1, BOX: 1, PROCESS: 1, AIR: 0}
    return [kind] + [chance.choice((0, 1, 1, 2, 2, 3, 4, 5, 1001)) for each in range(sizes.get(kind, 2))]


if __name__ == "__main__":
    unittest.main()
