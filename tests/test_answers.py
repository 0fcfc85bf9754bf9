"""The interface: how calls are handed in and how answers are given back."""

import unittest

import linkwatches.world
from helper import AIR, BOX, CHILD, CUT, DELIVER, ENDS, HIGHEST, LINK, PROCESS, SAY, START, STOP, TRAP, TURNS
from helper import UNWATCH, WATCH
from helper import asked, flat, starts

EVERY_CALL = [
    [START], [CHILD, 1, 2], [LINK, 1, 2], [CUT, 1, 2], [WATCH, 2, 1], [UNWATCH, 2, 3],
    [STOP, 1, 2, 99], [CHILD, 2, 1], [ENDS, 2, 7], [LINK, 2, 1], [CHILD, 1, 3],
    [TRAP, 3, 1], [SAY, 3, 1, HIGHEST], [DELIVER, 3, 1], [DELIVER, 3, 1], [AIR],
    [TURNS, 6], [TURNS, 1001], [BOX, 1], [BOX, 3], [PROCESS, 1], [PROCESS, 2], [PROCESS, 3], [AIR],
]
EVERY_ANSWER = [
    1, 1, 2, 2, 1, 1, 1, 1, 1, 1, 3, 1, 1,
    1, 0, 2, 3, 0, 1, 2, 1, -8, 1, -1,
    1, 0, 1, 0, 2, 0, HIGHEST, 1, -5,
    # On their way: link, cut, watch, unwatch, stop, ended, gone.
    29, 7, 1, 2, 1, 1, 2, 2, 2, 2, 1, 6, 3, 2, 1, 7, 3, 1, 2, 5, 99, 2, 3, 4, 7, 2, 1, 8, 1, 7,
    1, 6, 1, -1,
    4, 1, 0, 3, HIGHEST, 4, 1, 1, 2, 7,
    10, 1, 0, 0, 1, 2, 2, 1, 1, 2, 0, 6, 0, 7, 0, 0, 0, 0, 6, 1, 0, 1, 0, 0, 0,
    # Still on their way: gone, and behind it the answers to link and cut.
    14, 3, 2, 1, 8, 1, 7, 2, 1, 4, 3, 2, 1, 3, 2,
]


class Form(unittest.TestCase):
    def test_each_answer_has_its_count_before_it(self):
        self.assertEqual(linkwatches.world.answers(flat(EVERY_CALL)), EVERY_ANSWER)

    def test_one_call(self):
        self.assertEqual(linkwatches.world.answers([START]), [1, 1])

    def test_child_answers_two_numbers_and_a_refused_one_a_single_number(self):
        self.assertEqual(linkwatches.world.answers([START, CHILD, 1, 0, CHILD, 1, 3]), [1, 1, 2, 2, 0, 1, -1])

    def test_whole_numbers_alone_in_a_list(self):
        told = linkwatches.world.answers(flat(EVERY_CALL))
        self.assertIs(type(told), list)
        for number in told:
            self.assertIs(type(number), int)

    def test_a_hundred_calls(self):
        calls = starts(2) + [[WATCH, 1, 2] for each in range(98)]
        self.assertEqual(asked(*calls), [[1], [2]] + [[number] for number in range(1, 99)])

    def test_a_hundred_calls_of_500_numbers_at_most(self):
        # A line of the largest size: the words fill the box, and every look at it tells all of them.
        calls = [[START]] + [[SAY, 1, 1, word] for word in range(90)] + [[TURNS, 1000]] + [[BOX, 1]] * 8
        self.assertEqual(len(calls), 100)
        self.assertLessEqual(len(flat(calls)), 500)
        notes = [90] + flat([0, 1, word] for word in range(90))
        self.assertEqual(asked(*calls)[91:], [[90]] + [notes] * 8)

    def test_numbers_that_look_like_other_calls_are_read_as_they_stand(self):
        self.assertEqual(asked([START], [START], [STOP, 2, 1, 0], [UNWATCH, 1, HIGHEST], [START]),
                         [[1], [2], [0], [0], [3]])


class Handling(unittest.TestCase):
    def test_the_list_handed_in_stays_as_it_was(self):
        calls = flat(EVERY_CALL)
        linkwatches.world.answers(calls)
        self.assertEqual(calls, flat(EVERY_CALL))

    def test_a_list_that_cannot_be_changed_does(self):
        class Fixed(list):
            def refuse(self, *given):
                raise AssertionError("the list was changed")

            append = extend = insert = pop = remove = clear = reverse = sort = refuse
            __setitem__ = __delitem__ = __iadd__ = __imul__ = refuse

        self.assertEqual(linkwatches.world.answers(Fixed(flat(EVERY_CALL))), EVERY_ANSWER)

    def test_a_second_time_answers_as_the_first(self):
        calls = flat(EVERY_CALL)
        first = linkwatches.world.answers(calls)
        first_kept = list(first)
        first.clear()
        self.assertEqual(linkwatches.world.answers(calls), first_kept)

    def test_nothing_is_kept_behind_another_list(self):
        linkwatches.world.answers(flat(starts(12)))
        self.assertEqual(asked([START], [START], [WATCH, 1, 2]), [[1], [2], [1]])


if __name__ == "__main__":
    unittest.main()
