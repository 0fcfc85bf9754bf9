"""The calls trap and say."""

import unittest

from helper import AIR, BOX, DELIVER, ENDS, HIGHEST, SAY, START, TRAP
from helper import asked, box_of, in_air, last, seen, starts


class Trap(unittest.TestCase):
    def test_answers_what_was_till_then(self):
        calls = [[START]] + [[TRAP, 1, yes] for yes in (0, 1, 1, 0, 0, 1)]
        self.assertEqual(asked(*calls), [[1], [0], [0], [1], [1], [0], [0]])

    def test_at_first_not(self):
        self.assertEqual(seen(1, [START]).traps, 0)

    def test_set_and_taken_back(self):
        self.assertEqual(seen(1, [START], [TRAP, 1, 1]).traps, 1)
        self.assertEqual(seen(1, [START], [TRAP, 1, 1], [TRAP, 1, 1]).traps, 1)
        self.assertEqual(seen(1, [START], [TRAP, 1, 1], [TRAP, 1, 0]).traps, 0)

    def test_is_ones_own(self):
        self.assertEqual(seen(2, *starts(2), [TRAP, 1, 1]).traps, 0)

    def test_sends_nothing(self):
        self.assertEqual(last(*starts(2), [TRAP, 1, 1], [AIR]), [0])

    def test_stays_behind_an_end(self):
        self.assertEqual(seen(1, [START], [TRAP, 1, 1], [ENDS, 1, 5]), (0, 5, 1, [], [], []))


class Say(unittest.TestCase):
    def test_answers_0_and_sends_the_word(self):
        self.assertEqual(last(*starts(2), [SAY, 1, 2, 77]), [0])
        self.assertEqual(in_air(*starts(2), [SAY, 1, 2, 77]), [(1, 2, (0, 77))])

    def test_is_in_no_box_before_it_arrives(self):
        for p in (1, 2):
            self.assertEqual(last(*starts(2), [SAY, 1, 2, 77], [BOX, p]), [0])

    def test_said_delivered_and_found(self):
        for word in (0, 1, 77, HIGHEST):
            self.assertEqual(asked(*starts(2), [SAY, 1, 2, word], [DELIVER, 1, 2], [BOX, 2], [BOX, 1])[2:],
                             [[0], [0, word], [1, 0, 1, word], [0]])

    def test_to_itself(self):
        self.assertEqual(in_air([START], [SAY, 1, 1, 5]), [(1, 1, (0, 5))])
        self.assertEqual(box_of(1, [START], [SAY, 1, 1, 5], [DELIVER, 1, 1]), [(0, 1, 5)])

    def test_to_one_who_has_ended(self):
        self.assertEqual(last(*starts(2), [ENDS, 2, 0], [SAY, 1, 2, 5]), [0])
        self.assertEqual(in_air(*starts(2), [ENDS, 2, 0], [SAY, 1, 2, 5]), [(1, 2, (0, 5))])

    def test_the_same_word_twice_is_two(self):
        calls = starts(2) + [[SAY, 1, 2, 5], [SAY, 1, 2, 5], [DELIVER, 1, 2], [DELIVER, 1, 2]]
        self.assertEqual(box_of(2, *calls), [(0, 1, 5), (0, 1, 5)])


if __name__ == "__main__":
    unittest.main()
