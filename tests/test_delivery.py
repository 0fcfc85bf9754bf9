"""The calls deliver and turns: which signal arrives, what is answered, and what stays on its way."""

import unittest

from helper import AIR, BOX, CHILD, CUT, DELIVER, ENDS, HIGHEST, LINK, SAY, START, STOP, TRAP, TURNS, UNWATCH, WATCH
from helper import asked, box_of, in_air, last, seen, starts

MIXED = starts(3) + [
    [SAY, 1, 2, 10], [SAY, 2, 1, 20], [SAY, 1, 3, 30], [SAY, 1, 2, 40], [SAY, 3, 2, 50], [SAY, 2, 2, 60],
]


class Deliver(unittest.TestCase):
    def test_answers_the_signal_alone(self):
        self.assertEqual(last(*starts(2), [SAY, 1, 2, HIGHEST], [DELIVER, 1, 2]), [0, HIGHEST])
        self.assertEqual(last(*starts(2), [LINK, 1, 2], [DELIVER, 1, 2]), [1])
        self.assertEqual(last([START], [CHILD, 1, 1], [CUT, 1, 2], [DELIVER, 1, 2]), [2, 1])
        self.assertEqual(last([START], [CHILD, 1, 1], [CUT, 1, 2], [DELIVER, 1, 2], [DELIVER, 2, 1]), [3, 1])
        self.assertEqual(last([START], [CHILD, 1, 1], [ENDS, 1, 9], [DELIVER, 1, 2]), [4, 9])
        self.assertEqual(last(*starts(2), [STOP, 1, 2, 99], [DELIVER, 1, 2]), [5, 99])
        self.assertEqual(last(*starts(2), [WATCH, 1, 2], [DELIVER, 1, 2]), [6, 1])
        self.assertEqual(last([START], [CHILD, 1, 2], [UNWATCH, 1, 1], [DELIVER, 1, 2]), [7, 1])
        self.assertEqual(last([START], [CHILD, 1, 2], [ENDS, 2, 9], [DELIVER, 2, 1]), [8, 1, 9])

    def test_takes_the_first_of_those_two(self):
        self.assertEqual(last(*MIXED, [DELIVER, 1, 2]), [0, 10])
        self.assertEqual(last(*MIXED, [DELIVER, 1, 2], [DELIVER, 1, 2]), [0, 40])
        self.assertEqual(last(*MIXED, [DELIVER, 2, 1]), [0, 20])
        self.assertEqual(last(*MIXED, [DELIVER, 1, 3]), [0, 30])
        self.assertEqual(last(*MIXED, [DELIVER, 3, 2]), [0, 50])
        self.assertEqual(last(*MIXED, [DELIVER, 2, 2]), [0, 60])

    def test_leaves_the_order_of_the_rest(self):
        self.assertEqual(in_air(*MIXED, [DELIVER, 1, 3], [DELIVER, 1, 2]),
                         [(2, 1, (0, 20)), (1, 2, (0, 40)), (3, 2, (0, 50)), (2, 2, (0, 60))])

    def test_reaches_only_the_one_it_goes_to(self):
        self.assertEqual(box_of(2, *MIXED, [DELIVER, 3, 2], [DELIVER, 1, 2]), [(0, 3, 50), (0, 1, 10)])
        for p in (1, 3):
            self.assertEqual(box_of(p, *MIXED, [DELIVER, 3, 2], [DELIVER, 1, 2]), [])

    def test_the_other_way_is_another(self):
        self.assertEqual(last(*starts(2), [SAY, 1, 2, 5], [DELIVER, 2, 1]), [-5])

    def test_from_and_to_those_who_have_ended(self):
        said = starts(2) + [[SAY, 1, 2, 5]]
        self.assertEqual(last(*said, [ENDS, 1, 0], [DELIVER, 1, 2]), [0, 5])
        self.assertEqual(last(*said, [ENDS, 2, 0], [DELIVER, 1, 2]), [0, 5])
        self.assertEqual(last(*said, [ENDS, 2, 0], [DELIVER, 1, 2], [AIR]), [0])

    def test_what_arriving_sends_stands_last(self):
        calls = starts(3) + [[ENDS, 2, 0], [WATCH, 1, 2], [SAY, 1, 3, 7], [DELIVER, 1, 2]]
        self.assertEqual(in_air(*calls), [(1, 3, (0, 7)), (2, 1, (8, 1, 3))])


class Turns(unittest.TestCase):
    def test_none(self):
        self.assertEqual(last(*MIXED, [TURNS, 0]), [0])
        self.assertEqual(in_air(*MIXED, [TURNS, 0]), in_air(*MIXED))

    def test_fewer_than_are_on_their_way(self):
        self.assertEqual(last(*MIXED, [TURNS, 4]), [4])
        self.assertEqual(in_air(*MIXED, [TURNS, 4]), [(3, 2, (0, 50)), (2, 2, (0, 60))])
        self.assertEqual(box_of(2, *MIXED, [TURNS, 4]), [(0, 1, 10), (0, 1, 40)])

    def test_just_as_many(self):
        self.assertEqual(last(*MIXED, [TURNS, 6]), [6])
        self.assertEqual(in_air(*MIXED, [TURNS, 6]), [])
        self.assertEqual(box_of(2, *MIXED, [TURNS, 6]), [(0, 1, 10), (0, 1, 40), (0, 3, 50), (0, 2, 60)])

    def test_more(self):
        for n in (7, 999, 1000):
            self.assertEqual(last(*MIXED, [TURNS, n]), [6])
            self.assertEqual(in_air(*MIXED, [TURNS, n]), [])

    def test_when_there_is_none_on_its_way(self):
        self.assertEqual(asked([TURNS, 0], [TURNS, 1], [TURNS, 1000]), [[0], [0], [0]])
        self.assertEqual(last(*starts(2), [TURNS, 5]), [0])

    def test_what_arriving_signals_send_counts_too(self):
        cut = [[START], [CHILD, 1, 1], [CUT, 1, 2]]
        self.assertEqual(last(*cut, [TURNS, 1]), [1])
        self.assertEqual(in_air(*cut, [TURNS, 1]), [(2, 1, (3, 1))])
        for n in (2, 3, 1000):
            self.assertEqual(last(*cut, [TURNS, n]), [2])
            self.assertEqual(in_air(*cut, [TURNS, n]), [])

    def test_stops_at_n_amid_what_arriving_signals_send(self):
        chain = [[START]] + [[CHILD, p, 1] for p in range(1, 6)] + [[ENDS, 1, 8]]
        # 2 ends and tells 1 no more, since it has no link to 1 then; so on along the chain.
        for n in range(6):
            self.assertEqual(last(*chain, [TURNS, n]), [n])
            self.assertEqual(seen(n + 1, *chain, [TURNS, n])[:2], (0, 8))
            if n < 5:
                self.assertEqual(seen(n + 2, *chain, [TURNS, n])[:2], (1, 0))
        self.assertEqual(last(*chain, [TURNS, 6]), [5])

    def test_goes_on_where_the_last_left_off(self):
        self.assertEqual(asked(*MIXED, [TURNS, 2], [TURNS, 3], [TURNS, 4], [TURNS, 4])[-4:], [[2], [3], [1], [0]])

    def test_sent_first_of_all_whoever_it_is_from_and_to(self):
        calls = MIXED + [[DELIVER, 1, 2], [SAY, 2, 3, 70], [TURNS, 1]]
        self.assertEqual(box_of(1, *calls), [(0, 2, 20)])
        self.assertEqual(in_air(*calls), [(1, 3, (0, 30)), (1, 2, (0, 40)), (3, 2, (0, 50)), (2, 2, (0, 60)),
                                          (2, 3, (0, 70))])

    def test_an_end_on_the_way_lets_the_rest_find_nobody(self):
        calls = starts(2) + [[SAY, 1, 2, 1], [STOP, 1, 2, 1], [SAY, 1, 2, 2], [TURNS, 10]]
        self.assertEqual(last(*calls), [3])
        self.assertEqual(last(*calls, [BOX, 2]), [1, 0, 1, 1])

    def test_trap_in_between(self):
        calls = starts(2) + [[STOP, 1, 2, 0], [STOP, 1, 2, 5], [STOP, 1, 2, 6]]
        calls += [[TURNS, 1], [TRAP, 2, 1], [TURNS, 1], [TRAP, 2, 0], [TURNS, 1]]
        self.assertEqual(box_of(2, *calls), [(3, 1, 5)])
        self.assertEqual(seen(2, *calls)[:3], (0, 6, 0))


if __name__ == "__main__":
    unittest.main()
