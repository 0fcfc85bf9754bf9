"""What process, box and air tell behind start, child, link, cut, watch, unwatch, ends and stop."""

import unittest

from helper import CHILD, CUT, DELIVER, ENDS, LINK, START, STOP, TRAP, UNWATCH, WATCH
from helper import box_of, in_air, seen, starts

NEW = (1, 0, 0, [], [], [])


class Signals(unittest.TestCase):
    def test_start_and_child_send_none(self):
        self.assertEqual(in_air([START], [CHILD, 1, 0], [CHILD, 1, 1], [CHILD, 1, 2]), [])

    def test_link(self):
        self.assertEqual(in_air(*starts(2), [LINK, 2, 1], [LINK, 2, 1]), [(2, 1, (1,))])

    def test_link_again_while_it_is_being_cut(self):
        self.assertEqual(in_air(*starts(2), [LINK, 2, 1], [CUT, 2, 1], [LINK, 2, 1]),
                         [(2, 1, (1,)), (2, 1, (2, 1)), (2, 1, (1,))])

    def test_cut(self):
        self.assertEqual(in_air(*starts(2), [WATCH, 1, 2], [LINK, 2, 1], [CUT, 2, 1], [CUT, 2, 1])[1:],
                         [(2, 1, (1,)), (2, 1, (2, 2))])

    def test_cut_without_a_link(self):
        self.assertEqual(in_air(*starts(2), [CUT, 1, 2]), [])

    def test_watch(self):
        self.assertEqual(in_air(*starts(2), [WATCH, 1, 2], [WATCH, 2, 1]), [(1, 2, (6, 1)), (2, 1, (6, 2))])

    def test_unwatch_goes_to_whom_the_watch_was_of(self):
        calls = starts(3) + [[WATCH, 1, 2], [WATCH, 1, 3], [UNWATCH, 1, 2], [UNWATCH, 1, 2], [UNWATCH, 3, 1]]
        self.assertEqual(in_air(*calls)[2:], [(1, 3, (7, 2))])

    def test_stop(self):
        self.assertEqual(in_air(*starts(2), [STOP, 1, 2, 99], [STOP, 2, 2, 1]), [(1, 2, (5, 99)), (2, 2, (5, 1))])

    def test_an_end_tells_the_linked_by_number_then_the_watchers_then_the_watched(self):
        calls = [[START], [CHILD, 1, 2], *starts(4)]
        calls += [[WATCH, 2, 6], [LINK, 2, 5], [LINK, 2, 1], [LINK, 2, 4], [LINK, 2, 3], [CUT, 2, 4], [WATCH, 2, 1]]
        before = in_air(*calls)
        self.assertEqual(in_air(*calls, [ENDS, 2, 44]), before + [
            (2, 1, (4, 44)), (2, 3, (4, 44)), (2, 5, (4, 44)),
            (2, 1, (8, 1, 44)),
            (2, 6, (7, 2)), (2, 1, (7, 4)),
        ])

    def test_watchers_are_told_in_the_order_in_which_they_came(self):
        calls = starts(4) + [[WATCH, 2, 1], [WATCH, 3, 1], [WATCH, 4, 1]]
        calls += [[DELIVER, 4, 1], [DELIVER, 2, 1], [DELIVER, 3, 1]]
        self.assertEqual(in_air(*calls, [ENDS, 1, 6]), [(1, 4, (8, 3, 6)), (1, 2, (8, 1, 6)), (1, 3, (8, 2, 6))])

    def test_an_end_without_anybody_sends_none(self):
        self.assertEqual(in_air(*starts(2), [ENDS, 1, 7]), [])


class Holdings(unittest.TestCase):
    def test_a_new_process(self):
        self.assertEqual(seen(1, [START]), NEW)
        self.assertEqual(box_of(1, [START]), [])

    def test_child_that_nothing_joins(self):
        for p in (1, 2):
            self.assertEqual(seen(p, [START], [CHILD, 1, 0]), NEW)

    def test_child_linked(self):
        self.assertEqual(seen(1, [START], [CHILD, 1, 1]), (1, 0, 0, [(2, 0)], [], []))
        self.assertEqual(seen(2, [START], [CHILD, 1, 1]), (1, 0, 0, [(1, 0)], [], []))

    def test_child_watched(self):
        self.assertEqual(seen(1, [START], [CHILD, 1, 2]), (1, 0, 0, [], [(1, 2)], []))
        self.assertEqual(seen(2, [START], [CHILD, 1, 2]), (1, 0, 0, [], [], [(1, 1)]))

    def test_child_of_one_who_traps_does_not(self):
        self.assertEqual(seen(2, [START], [TRAP, 1, 1], [CHILD, 1, 0]), NEW)

    def test_link_and_cut_change_ones_own_side(self):
        calls = starts(2) + [[LINK, 1, 2]]
        self.assertEqual(seen(1, *calls).links, [(2, 0)])
        self.assertEqual(seen(2, *calls), NEW)
        self.assertEqual(seen(1, *calls, [CUT, 1, 2]).links, [(2, 1)])
        self.assertEqual(seen(1, *calls, [CUT, 1, 2], [CUT, 1, 2]).links, [(2, 1)])
        self.assertEqual(seen(1, *calls, [CUT, 1, 2], [LINK, 1, 2]).links, [(2, 0)])
        self.assertEqual(seen(1, *calls, [CUT, 1, 2], [LINK, 1, 2], [CUT, 1, 2]).links, [(2, 2)])

    def test_cut_leaves_the_others_side_till_it_arrives(self):
        self.assertEqual(seen(2, [START], [CHILD, 1, 1], [CUT, 1, 2]).links, [(1, 0)])

    def test_cut_without_a_link(self):
        for p in (1, 2):
            self.assertEqual(seen(p, *starts(2), [CUT, 1, 2]), NEW)

    def test_watch_and_unwatch_change_ones_own_side(self):
        calls = starts(3) + [[WATCH, 1, 3], [WATCH, 1, 2], [WATCH, 1, 3]]
        self.assertEqual(seen(1, *calls).watches, [(1, 3), (2, 2), (3, 3)])
        self.assertEqual(seen(3, *calls), NEW)
        self.assertEqual(seen(1, *calls, [UNWATCH, 1, 2]).watches, [(1, 3), (3, 3)])

    def test_unwatch_leaves_the_watched_as_it_was_till_it_arrives(self):
        self.assertEqual(seen(2, [START], [CHILD, 1, 2], [UNWATCH, 1, 1]).watched, [(1, 1)])

    def test_unwatch_of_anothers_watch_changes_nothing(self):
        self.assertEqual(seen(1, *starts(3), [WATCH, 1, 2], [UNWATCH, 3, 1]).watches, [(1, 2)])

    def test_one_who_has_ended_has_nothing(self):
        calls = [[START], [CHILD, 1, 2], [CHILD, 2, 1], [LINK, 2, 1], [CUT, 2, 1], [WATCH, 2, 1]]
        self.assertEqual(seen(2, *calls), (1, 0, 0, [(1, 2), (3, 0)], [(3, 1)], [(1, 1)]))
        self.assertEqual(seen(2, *calls, [ENDS, 2, 99]), (0, 99, 0, [], [], []))

    def test_an_end_leaves_the_others_as_they_were(self):
        calls = [[START], [CHILD, 1, 1], [CHILD, 1, 2], [ENDS, 1, 8]]
        self.assertEqual(seen(2, *calls), (1, 0, 0, [(1, 0)], [], []))
        self.assertEqual(seen(3, *calls), (1, 0, 0, [], [], [(1, 1)]))

    def test_ends_asks_not_whether_it_traps_and_puts_no_note(self):
        calls = [[START], [TRAP, 1, 1], [ENDS, 1, 0]]
        self.assertEqual(seen(1, *calls), (0, 0, 1, [], [], []))
        self.assertEqual(box_of(1, *calls), [])

    def test_every_why_is_kept(self):
        for why in range(100):
            self.assertEqual(seen(1, [START], [ENDS, 1, why]), (0, why, 0, [], [], []))

    def test_stop_changes_nobody_before_it_arrives(self):
        for p in (1, 2):
            self.assertEqual(seen(p, *starts(2), [STOP, 1, 2, 1]), NEW)
            self.assertEqual(box_of(p, *starts(2), [STOP, 1, 2, 1]), [])


if __name__ == "__main__":
    unittest.main()
