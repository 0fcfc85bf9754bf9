"""What the calls answer by themselves and behind others, where nothing is refused."""

import unittest

from helper import CHILD, CUT, ENDS, HIGHEST, LINK, START, STOP, UNWATCH, WATCH
from helper import asked, last, starts


class Start(unittest.TestCase):
    def test_numbers_go_on_from_one(self):
        self.assertEqual(asked(*starts(12)), [[number] for number in range(1, 13)])

    def test_a_number_is_not_given_again(self):
        self.assertEqual(last(*starts(2), [ENDS, 2, 0], [START]), [3])


class Child(unittest.TestCase):
    def test_how_0_joins_nothing(self):
        calls = [[START], [CHILD, 1, 0]]
        self.assertEqual(last(*calls), [2, 0])
        self.assertEqual(last(*calls, [ENDS, 1, 5]), [0])
        self.assertEqual(last(*calls, [ENDS, 2, 5]), [0])
        self.assertEqual(last(*calls, [LINK, 1, 2]), [1])

    def test_how_1_links_both(self):
        calls = [[START], [CHILD, 1, 1]]
        self.assertEqual(last(*calls), [2, 0])
        self.assertEqual(last(*calls, [LINK, 1, 2]), [0])
        self.assertEqual(last(*calls, [LINK, 2, 1]), [0])
        self.assertEqual(last(*calls, [ENDS, 1, 5]), [1])
        self.assertEqual(last(*calls, [ENDS, 2, 5]), [1])

    def test_how_2_lets_p_watch_it(self):
        calls = [[START], [CHILD, 1, 2]]
        self.assertEqual(last(*calls), [2, 1])
        self.assertEqual(last(*calls, [UNWATCH, 1, 1]), [1])
        self.assertEqual(last(*calls, [UNWATCH, 2, 1]), [0])
        self.assertEqual(last(*calls, [ENDS, 2, 5]), [1])
        self.assertEqual(last(*calls, [ENDS, 1, 5]), [1])

    def test_how_2_sets_no_link(self):
        self.assertEqual(last([START], [CHILD, 1, 2], [LINK, 1, 2]), [1])
        self.assertEqual(last([START], [CHILD, 1, 2], [LINK, 2, 1]), [1])

    def test_a_childs_child(self):
        self.assertEqual(asked([START], [CHILD, 1, 1], [CHILD, 2, 1], [ENDS, 2, 1]),
                         [[1], [2, 0], [3, 0], [2]])


class Link(unittest.TestCase):
    def test_new(self):
        self.assertEqual(last(*starts(2), [LINK, 1, 2]), [1])

    def test_that_holds_already(self):
        self.assertEqual(last(*starts(2), [LINK, 1, 2], [LINK, 1, 2]), [0])

    def test_the_other_way_is_another(self):
        self.assertEqual(last(*starts(2), [LINK, 1, 2], [LINK, 2, 1]), [1])

    def test_to_a_third(self):
        self.assertEqual(last(*starts(3), [LINK, 1, 2], [LINK, 1, 3]), [1])

    def test_that_is_being_cut_holds_again(self):
        calls = starts(2) + [[LINK, 1, 2], [CUT, 1, 2]]
        self.assertEqual(last(*calls, [LINK, 1, 2]), [1])
        self.assertEqual(last(*calls, [LINK, 1, 2], [LINK, 1, 2]), [0])
        self.assertEqual(last(*calls, [LINK, 1, 2], [ENDS, 1, 0]), [1])

    def test_to_one_who_has_ended(self):
        self.assertEqual(last(*starts(2), [ENDS, 2, 0], [LINK, 1, 2]), [1])


class Cut(unittest.TestCase):
    def test_that_holds(self):
        self.assertEqual(last(*starts(2), [LINK, 1, 2], [CUT, 1, 2]), [1])

    def test_that_is_being_cut(self):
        self.assertEqual(last(*starts(2), [LINK, 1, 2], [CUT, 1, 2], [CUT, 1, 2]), [0])

    def test_that_is_not_there(self):
        self.assertEqual(last(*starts(2), [CUT, 1, 2]), [0])

    def test_that_only_the_other_has(self):
        self.assertEqual(last(*starts(2), [LINK, 1, 2], [CUT, 2, 1]), [0])

    def test_one_side_leaves_the_other_as_it_was(self):
        calls = [[START], [CHILD, 1, 1], [CUT, 1, 2]]
        self.assertEqual(last(*calls, [CUT, 2, 1]), [1])
        self.assertEqual(last(*calls, [ENDS, 1, 0]), [0])
        self.assertEqual(last(*calls, [ENDS, 2, 0]), [1])

    def test_with_one_who_has_ended(self):
        self.assertEqual(last([START], [CHILD, 1, 1], [ENDS, 2, 0], [CUT, 1, 2]), [1])


class Watch(unittest.TestCase):
    def test_numbers_go_on(self):
        self.assertEqual(asked(*starts(2), [WATCH, 1, 2], [WATCH, 1, 2], [WATCH, 2, 1])[2:], [[1], [2], [3]])

    def test_one_who_has_ended(self):
        self.assertEqual(last(*starts(2), [ENDS, 2, 0], [WATCH, 1, 2]), [1])

    def test_is_not_felt_by_the_watched_before_it_arrives(self):
        self.assertEqual(last(*starts(2), [WATCH, 1, 2], [ENDS, 2, 0]), [0])


class Unwatch(unittest.TestCase):
    def test_ones_own(self):
        self.assertEqual(last(*starts(2), [WATCH, 1, 2], [UNWATCH, 1, 1]), [1])

    def test_one_that_is_gone(self):
        self.assertEqual(last(*starts(2), [WATCH, 1, 2], [UNWATCH, 1, 1], [UNWATCH, 1, 1]), [0])

    def test_anothers(self):
        calls = starts(3) + [[WATCH, 1, 2], [UNWATCH, 2, 1], [UNWATCH, 3, 1], [UNWATCH, 1, 1]]
        self.assertEqual(asked(*calls)[4:], [[0], [0], [1]])

    def test_none(self):
        for number in (0, 1, HIGHEST):
            self.assertEqual(last([START], [UNWATCH, 1, number]), [0])

    def test_a_cuts_number(self):
        self.assertEqual(last(*starts(2), [LINK, 1, 2], [CUT, 1, 2], [UNWATCH, 1, 1]), [0])

    def test_one_of_two(self):
        calls = starts(2) + [[WATCH, 1, 2], [WATCH, 1, 2], [UNWATCH, 1, 1]]
        self.assertEqual(last(*calls, [UNWATCH, 1, 2]), [1])
        self.assertEqual(last(*calls, [ENDS, 1, 0]), [1])

    def test_leaves_the_watched_as_it_was_till_it_arrives(self):
        self.assertEqual(last([START], [CHILD, 1, 2], [UNWATCH, 1, 1], [ENDS, 2, 0]), [1])

    def test_of_one_who_has_ended(self):
        self.assertEqual(last([START], [CHILD, 1, 2], [ENDS, 2, 0], [UNWATCH, 1, 1]), [1])


class Ends(unittest.TestCase):
    def test_alone(self):
        self.assertEqual(last([START], [ENDS, 1, 0]), [0])

    def test_every_why_up_to_99(self):
        for why in range(100):
            self.assertEqual(last([START], [CHILD, 1, 1], [ENDS, 1, why]), [1])

    def test_links_watches_and_watchers_together(self):
        calls = [[START], [CHILD, 1, 2], [CHILD, 2, 1], [CHILD, 2, 1], [WATCH, 2, 1], [WATCH, 2, 3], [WATCH, 2, 3]]
        self.assertEqual(last(*calls, [ENDS, 2, 4]), [6])

    def test_a_link_that_is_being_cut_is_not_told(self):
        self.assertEqual(last(*starts(3), [LINK, 1, 2], [LINK, 1, 3], [CUT, 1, 2], [ENDS, 1, 0]), [1])

    def test_those_who_have_ended_are_told_too(self):
        self.assertEqual(last([START], [CHILD, 1, 1], [CHILD, 1, 2], [ENDS, 2, 0], [ENDS, 3, 0], [ENDS, 1, 0]), [2])

    def test_the_others_live_on_till_it_arrives(self):
        self.assertEqual(last([START], [CHILD, 1, 1], [ENDS, 1, 9], [CHILD, 2, 0]), [3, 0])


class Stop(unittest.TestCase):
    def test_answers_0(self):
        for why in (0, 1, 2, 3, 99):
            self.assertEqual(last(*starts(2), [STOP, 1, 2, why]), [0])

    def test_itself(self):
        self.assertEqual(last([START], [STOP, 1, 1, 1]), [0])

    def test_one_who_has_ended(self):
        self.assertEqual(last(*starts(2), [ENDS, 2, 0], [STOP, 1, 2, 1]), [0])

    def test_ends_nobody_before_it_arrives(self):
        self.assertEqual(last(*starts(2), [STOP, 1, 2, 1], [CHILD, 2, 0]), [3, 0])


class OneRowOfNumbers(unittest.TestCase):
    def test_cuts_and_watches_share_it(self):
        calls = starts(2) + [[WATCH, 1, 2], [LINK, 1, 2], [CUT, 1, 2], [WATCH, 2, 1], [CHILD, 1, 2], [WATCH, 1, 3]]
        self.assertEqual(asked(*calls)[2:], [[1], [1], [1], [3], [3, 4], [5]])

    def test_what_begins_nothing_takes_none(self):
        calls = starts(3) + [
            [CUT, 1, 2], [LINK, 1, 2], [LINK, 1, 2], [CHILD, 1, 0], [CHILD, 1, 1], [UNWATCH, 1, 1],
            [STOP, 1, 2, 0], [ENDS, 3, 0], [WATCH, 1, 2],
        ]
        self.assertEqual(last(*calls), [1])

    def test_a_refused_call_takes_none(self):
        calls = starts(2) + [[WATCH, 1, 1], [WATCH, 1, 3], [CUT, 1, 1], [CHILD, 1, 3], [WATCH, 1, 2]]
        self.assertEqual(last(*calls), [1])

    def test_the_number_of_a_watch_that_is_gone_is_not_given_again(self):
        self.assertEqual(last(*starts(2), [WATCH, 1, 2], [UNWATCH, 1, 1], [WATCH, 1, 2]), [2])


if __name__ == "__main__":
    unittest.main()
