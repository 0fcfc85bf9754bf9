"""What the calls leave behind: links, watches, ends, and the signals on their way in their order."""

import unittest

from helper import CHILD, CUT, ENDS, LINK, START, STOP, UNWATCH, WATCH
from helper import made, starts
from linkwatches.world import answer_of


def signals(*calls):
    return made(*calls).signals


def order(numbers):
    return list(numbers.items())


class Signals(unittest.TestCase):
    def test_start_and_child_send_none(self):
        self.assertEqual(signals([START], [CHILD, 1, 0], [CHILD, 1, 1], [CHILD, 1, 2]), [])

    def test_link(self):
        self.assertEqual(signals(*starts(2), [LINK, 2, 1], [LINK, 2, 1]), [(2, 1, (1,))])

    def test_cut(self):
        self.assertEqual(signals(*starts(2), [WATCH, 1, 2], [LINK, 2, 1], [CUT, 2, 1], [CUT, 2, 1])[1:],
                         [(2, 1, (1,)), (2, 1, (2, 2))])

    def test_watch(self):
        self.assertEqual(signals(*starts(2), [WATCH, 1, 2], [WATCH, 2, 1]), [(1, 2, (6, 1)), (2, 1, (6, 2))])

    def test_unwatch_goes_to_whom_the_watch_was_of(self):
        calls = starts(3) + [[WATCH, 1, 2], [WATCH, 1, 3], [UNWATCH, 1, 2], [UNWATCH, 1, 2], [UNWATCH, 3, 1]]
        self.assertEqual(signals(*calls)[2:], [(1, 3, (7, 2))])

    def test_stop(self):
        self.assertEqual(signals(*starts(2), [STOP, 1, 2, 99], [STOP, 2, 2, 1]), [(1, 2, (5, 99)), (2, 2, (5, 1))])

    def test_an_end_tells_the_linked_by_number_then_the_watchers_then_the_watched(self):
        calls = [[START], [CHILD, 1, 2], *starts(4)]
        calls += [[WATCH, 2, 6], [LINK, 2, 5], [LINK, 2, 1], [LINK, 2, 4], [LINK, 2, 3], [CUT, 2, 4], [WATCH, 2, 1]]
        before = signals(*calls)
        self.assertEqual(signals(*calls, [ENDS, 2, 44]), before + [
            (2, 1, (4, 44)), (2, 3, (4, 44)), (2, 5, (4, 44)),
            (2, 1, (8, 1, 44)),
            (2, 6, (7, 2)), (2, 1, (7, 4)),
        ])

    def test_watchers_are_told_in_the_order_in_which_they_came(self):
        world = made(*starts(4))
        for number, whose in ((5, 2), (3, 4), (9, 3)):
            world.processes[1].watchers[number] = whose
        self.assertEqual(answer_of(world, [ENDS, 1, 6]), [3])
        self.assertEqual(world.signals, [(1, 2, (8, 5, 6)), (1, 4, (8, 3, 6)), (1, 3, (8, 9, 6))])


class Holdings(unittest.TestCase):
    def test_a_new_process(self):
        new = made([START]).processes[1]
        self.assertEqual((new.living, new.why, new.links, new.watches, new.watchers), (True, 0, {}, {}, {}))

    def test_child_linked(self):
        world = made([START], [CHILD, 1, 1])
        self.assertEqual((world.processes[1].links, world.processes[2].links), ({2: 0}, {1: 0}))
        self.assertEqual((world.processes[1].watches, world.processes[2].watchers), ({}, {}))

    def test_child_watched(self):
        world = made([START], [CHILD, 1, 2])
        self.assertEqual((world.processes[1].links, world.processes[2].links), ({}, {}))
        self.assertEqual((world.processes[1].watches, world.processes[2].watchers), ({1: 2}, {1: 1}))
        self.assertEqual((world.processes[2].watches, world.processes[1].watchers), ({}, {}))

    def test_link_and_cut_change_ones_own_side(self):
        calls = starts(2) + [[LINK, 1, 2]]
        self.assertEqual(made(*calls).processes[1].links, {2: 0})
        self.assertEqual(made(*calls).processes[2].links, {})
        self.assertEqual(made(*calls, [CUT, 1, 2]).processes[1].links, {2: 1})
        self.assertEqual(made(*calls, [CUT, 1, 2], [CUT, 1, 2]).processes[1].links, {2: 1})
        self.assertEqual(made(*calls, [CUT, 1, 2], [LINK, 1, 2]).processes[1].links, {2: 0})
        self.assertEqual(made(*calls, [CUT, 1, 2], [LINK, 1, 2], [CUT, 1, 2]).processes[1].links, {2: 2})

    def test_watch_and_unwatch_change_ones_own_side(self):
        calls = starts(3) + [[WATCH, 1, 3], [WATCH, 1, 2], [WATCH, 1, 3]]
        self.assertEqual(order(made(*calls).processes[1].watches), [(1, 3), (2, 2), (3, 3)])
        self.assertEqual(made(*calls).processes[3].watchers, {})
        self.assertEqual(order(made(*calls, [UNWATCH, 1, 2]).processes[1].watches), [(1, 3), (3, 3)])

    def test_one_who_has_ended_has_nothing(self):
        calls = [[START], [CHILD, 1, 2], [CHILD, 2, 1], [LINK, 2, 1], [CUT, 2, 1], [WATCH, 2, 1], [ENDS, 2, 99]]
        ended = made(*calls).processes[2]
        self.assertEqual((ended.living, ended.why, ended.links, ended.watches, ended.watchers),
                         (False, 99, {}, {}, {}))

    def test_an_end_leaves_the_others_as_they_were(self):
        calls = [[START], [CHILD, 1, 1], [CHILD, 1, 2], [ENDS, 1, 8]]
        world = made(*calls)
        self.assertEqual((world.processes[2].living, world.processes[2].links), (True, {1: 0}))
        self.assertEqual((world.processes[3].living, world.processes[3].watchers), (True, {1: 1}))

    def test_stop_changes_nobody(self):
        stopped = made(*starts(2), [STOP, 1, 2, 1]).processes[2]
        self.assertEqual((stopped.living, stopped.why), (True, 0))


if __name__ == "__main__":
    unittest.main()
