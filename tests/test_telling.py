"""The calls box, process and air, number by number."""

import unittest

from helper import AIR, BOX, CHILD, CUT, DELIVER, ENDS, HIGHEST, LINK, PROCESS, SAY, START, STOP, TRAP, TURNS
from helper import UNWATCH, WATCH
from helper import LOOKS, asked, last, looks, made, picture, starts


class Box(unittest.TestCase):
    EVERY_NOTE = [
        [START], [TRAP, 1, 1], [CHILD, 1, 1], [CHILD, 1, 2], [START],
        [SAY, 4, 1, HIGHEST], [ENDS, 2, 9], [ENDS, 3, 0], [STOP, 4, 1, 99], [TURNS, 10],
    ]

    def test_empty(self):
        self.assertEqual(last([START], [BOX, 1]), [0])

    def test_notes_of_each_of_the_four_kinds(self):
        self.assertEqual(last(*self.EVERY_NOTE, [BOX, 1]),
                         [4, 0, 4, HIGHEST, 1, 2, 9, 2, 1, 0, 3, 4, 99])

    def test_the_oldest_first_is_the_one_that_arrived_first(self):
        calls = starts(3) + [[SAY, 1, 3, 10], [SAY, 2, 3, 20], [SAY, 1, 3, 11], [DELIVER, 2, 3], [TURNS, 2]]
        self.assertEqual(last(*calls, [BOX, 3]), [3, 0, 2, 20, 0, 1, 10, 0, 1, 11])

    def test_stays_full_when_asked_again(self):
        self.assertEqual(asked(*self.EVERY_NOTE, [BOX, 1], [BOX, 1])[-1], last(*self.EVERY_NOTE, [BOX, 1]))

    def test_of_one_who_has_ended_keeps_what_came_before(self):
        calls = starts(2) + [[SAY, 2, 1, 5], [SAY, 2, 1, 6], [TURNS, 1], [ENDS, 1, 0], [TURNS, 1]]
        self.assertEqual(last(*calls, [BOX, 1]), [1, 0, 2, 5])

    def test_is_ones_own(self):
        for p in (2, 3, 4):
            self.assertEqual(last(*self.EVERY_NOTE, [BOX, p]), [0])


class Process(unittest.TestCase):
    def test_new(self):
        self.assertEqual(last([START], [PROCESS, 1]), [1, 0, 0, 0, 0, 0])

    def test_that_traps(self):
        self.assertEqual(last([START], [TRAP, 1, 1], [PROCESS, 1]), [1, 0, 1, 0, 0, 0])

    def test_that_has_ended(self):
        for why in (0, 1, 2, 3, 99):
            self.assertEqual(last([START], [ENDS, 1, why], [PROCESS, 1]), [0, why, 0, 0, 0, 0])
        self.assertEqual(last([START], [TRAP, 1, 1], [ENDS, 1, 4], [PROCESS, 1]), [0, 4, 1, 0, 0, 0])

    def test_links_by_whom_they_go_to(self):
        calls = starts(5) + [[LINK, 3, 5], [LINK, 3, 1], [LINK, 3, 4], [LINK, 3, 2], [CUT, 3, 4], [CUT, 3, 1]]
        self.assertEqual(last(*calls, [PROCESS, 3]), [1, 0, 0, 4, 1, 2, 2, 0, 4, 1, 5, 0, 0, 0])

    def test_links_to_two_digits_come_behind_those_to_one(self):
        calls = starts(12) + [[LINK, 1, q] for q in (12, 10, 9, 2, 11)]
        self.assertEqual(last(*calls, [PROCESS, 1]), [1, 0, 0, 5, 2, 0, 9, 0, 10, 0, 11, 0, 12, 0, 0, 0])

    def test_watches_in_the_order_in_which_they_began(self):
        calls = starts(4) + [[WATCH, 1, 4], [WATCH, 1, 2], [WATCH, 3, 1], [CHILD, 1, 2], [WATCH, 1, 4]]
        self.assertEqual(last(*calls, [PROCESS, 1]), [1, 0, 0, 0, 4, 1, 4, 2, 2, 4, 5, 5, 4, 0])
        self.assertEqual(last(*calls, [UNWATCH, 1, 2], [WATCH, 1, 2], [PROCESS, 1]),
                         [1, 0, 0, 0, 4, 1, 4, 4, 5, 5, 4, 6, 2, 0])

    def test_watchers_in_the_order_in_which_they_came(self):
        calls = [[START], [CHILD, 1, 2], *starts(2), [WATCH, 3, 2], [WATCH, 4, 2], [WATCH, 3, 2]]
        calls += [[DELIVER, 4, 2], [DELIVER, 3, 2], [DELIVER, 3, 2]]
        self.assertEqual(last(*calls, [PROCESS, 2]), [1, 0, 0, 0, 0, 4, 1, 1, 3, 4, 2, 3, 4, 3])

    def test_links_watches_and_watchers_behind_one_another(self):
        calls = [[START], [CHILD, 1, 2], [TRAP, 2, 1], [CHILD, 2, 1], [WATCH, 2, 3], [CUT, 2, 3]]
        self.assertEqual(last(*calls, [PROCESS, 2]), [1, 0, 1, 1, 3, 3, 1, 2, 3, 1, 1, 1])


class Air(unittest.TestCase):
    def test_empty(self):
        self.assertEqual(asked([AIR]), [[0]])
        self.assertEqual(last(*starts(3), [AIR]), [0])

    def test_each_of_the_nine_signals(self):
        calls = [
            [START], [CHILD, 1, 1], [CHILD, 1, 2], *starts(2),
            [CUT, 1, 2], [DELIVER, 1, 2],
            [SAY, 4, 5, HIGHEST], [LINK, 4, 5], [CUT, 4, 5], [STOP, 4, 4, 99], [WATCH, 4, 1], [UNWATCH, 4, 4],
            [LINK, 3, 5], [ENDS, 3, 6],
        ]
        self.assertEqual(last(*calls, [AIR]), [
            10,
            2, 1, 3, 2,
            4, 5, 0, HIGHEST,
            4, 5, 1,
            4, 5, 2, 3,
            4, 4, 5, 99,
            4, 1, 6, 4,
            4, 1, 7, 4,
            3, 5, 1,
            3, 5, 4, 6,
            3, 1, 8, 1, 6,
        ])

    def test_in_the_order_in_which_they_were_sent(self):
        calls = starts(3) + [[SAY, 3, 1, 1], [SAY, 1, 2, 2], [SAY, 3, 1, 3], [SAY, 2, 2, 4]]
        self.assertEqual(last(*calls, [AIR]), [4, 3, 1, 0, 1, 1, 2, 0, 2, 3, 1, 0, 3, 2, 2, 0, 4])
        self.assertEqual(last(*calls, [DELIVER, 1, 2], [AIR]), [3, 3, 1, 0, 1, 3, 1, 0, 3, 2, 2, 0, 4])

    def test_tells_what_is_from_and_to_those_who_have_ended(self):
        self.assertEqual(last(*starts(2), [SAY, 1, 2, 5], [ENDS, 1, 0], [ENDS, 2, 0], [AIR]), [1, 1, 2, 0, 5])


class Looking(unittest.TestCase):
    def test_changes_nothing(self):
        world = made(*Box.EVERY_NOTE, [LINK, 1, 4], [WATCH, 4, 1], [CUT, 1, 4], [ENDS, 4, 1])
        before = picture(world)
        first = looks(world)
        self.assertEqual(picture(world), before)
        self.assertEqual(looks(world), first)

    def test_each_answer_is_its_own_list(self):
        world = made(*Box.EVERY_NOTE, [LINK, 1, 4])
        first = looks(world)
        for row in looks(world):
            row.clear()
        self.assertEqual(looks(world), first)

    def test_in_a_world_without_any_process(self):
        self.assertEqual(asked(*LOOKS), [[0]] + [[-1] for look in LOOKS[1:]])


if __name__ == "__main__":
    unittest.main()
