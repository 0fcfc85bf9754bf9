"""What the document promises over the whole program, when all has arrived."""

import itertools
import random
import unittest

from helper import AIR, CHILD, CUT, DELIVER, ENDS, LINK, PROCESS, SAY, START, STOP, TRAP, TURNS, UNWATCH, WATCH
from helper import LOOKS, asked, box_of, in_air, last, looks, made, read_box, read_process, seen, starts
from linkwatches.world import answer_of

ALL_ARRIVE = [TURNS, 1000]
LINKED = [[START], [CHILD, 1, 1]]
CHAIN = [[START]] + [[CHILD, p, 1] for p in range(1, 12)]
STAR = [[START]] + [[CHILD, 1, 1] for each in range(11)]


def fates(*calls):
    """Of twelve processes: 0 for one who lives, else why it has ended."""
    rows = asked(*calls, *[[PROCESS, p] for p in range(1, 13)])[-12:]
    return [row[1] for row in rows]


class EndsSpread(unittest.TestCase):
    def test_over_a_chain_of_twelve(self):
        for first in range(1, 13):
            calls = CHAIN + [[ENDS, first, 9], ALL_ARRIVE]
            self.assertEqual(last(*calls), [11])
            self.assertEqual(fates(*calls), [9] * 12)
            self.assertEqual(in_air(*calls), [])

    def test_over_a_star_of_twelve(self):
        for first in (1, 2, 12):
            self.assertEqual(fates(*STAR, [ENDS, first, 99], ALL_ARRIVE), [99] * 12)

    def test_over_a_ring_of_twelve(self):
        for first in range(1, 13):
            calls = CHAIN + [[LINK, 12, 1], ALL_ARRIVE, [ENDS, first, 9], ALL_ARRIVE]
            self.assertEqual(fates(*calls), [9] * 12)

    def test_over_twelve_with_several_ways_between_them(self):
        calls = CHAIN + [[LINK, p, (p + 4) % 12 + 1] for p in range(1, 13)] + [ALL_ARRIVE, [ENDS, 7, 3], ALL_ARRIVE]
        self.assertEqual(fates(*calls), [3] * 12)
        self.assertEqual(in_air(*calls), [])

    def test_from_one_who_is_killed(self):
        self.assertEqual(fates(*CHAIN, [STOP, 1, 6, 1], ALL_ARRIVE), [2] * 12)

    def test_up_to_one_who_traps(self):
        calls = CHAIN + [[TRAP, 4, 1], [TRAP, 8, 1], [ENDS, 6, 9], ALL_ARRIVE]
        self.assertEqual(fates(*calls), [0, 0, 0, 0, 9, 9, 9, 0, 0, 0, 0, 0])
        self.assertEqual(box_of(4, *calls), [(1, 5, 9)])
        self.assertEqual(box_of(8, *calls), [(1, 7, 9)])
        self.assertEqual(seen(4, *calls).links, [(3, 0)])
        self.assertEqual(seen(8, *calls).links, [(9, 0)])

    def test_not_as_it_should(self):
        calls = CHAIN + [[ENDS, 6, 0], ALL_ARRIVE]
        self.assertEqual(last(*calls), [2])
        self.assertEqual(fates(*calls), [0] * 12)
        self.assertEqual(seen(5, *calls).links, [(4, 0)])
        self.assertEqual(seen(6, *calls).lives, 0)

    def test_with_the_why_that_arrives_first(self):
        calls = CHAIN + [[ENDS, 1, 10], [ENDS, 12, 20], ALL_ARRIVE]
        self.assertEqual(fates(*calls), [10] * 6 + [20] * 6)

    def test_to_whoever_links_to_one_of_those_who_have_ended(self):
        calls = starts(3) + [[ENDS, 3, 0], [LINK, 1, 2], [LINK, 2, 3], ALL_ARRIVE]
        self.assertEqual([seen(p, *calls)[:2] for p in (1, 2, 3)], [(0, 3), (0, 3), (0, 0)])


class CutLinks(unittest.TestCase):
    def every_order(self, calls, count):
        """Behind these calls, each order of arrival between 1 and 2 that lets all arrive."""
        ways = ([DELIVER, 1, 2], [DELIVER, 2, 1])
        for order in itertools.product(ways, repeat=count):
            yield list(calls) + list(order) + [ALL_ARRIVE]

    def test_are_not_felt_by_who_cut_them(self):
        for why in (0, 1, 9):
            for yes in (0, 1):
                for between in range(3):
                    calls = LINKED + [[TRAP, 1, yes], [CUT, 1, 2]] + [[TURNS, between], [ENDS, 2, why]]
                    for ordered in self.every_order(calls, 3):
                        self.assertEqual(seen(1, *ordered), (1, 0, yes, [], [], []))
                        self.assertEqual(box_of(1, *ordered), [])

    def test_are_not_felt_by_who_cut_them_after_the_end_was_sent(self):
        for why in (1, 9):
            for ordered in self.every_order(LINKED + [[ENDS, 2, why], [CUT, 1, 2]], 3):
                self.assertEqual(seen(1, *ordered), (1, 0, 0, [], [], []))

    def test_that_were_set_again_are_felt(self):
        for ordered in self.every_order(LINKED + [[CUT, 1, 2], [LINK, 1, 2]], 4):
            self.assertEqual(seen(2, *ordered).links, [(1, 0)])
            self.assertEqual(seen(1, *ordered, [ENDS, 2, 9], ALL_ARRIVE), (0, 9, 0, [], [], []))

    def test_by_both_at_once(self):
        for ordered in self.every_order(LINKED + [[CUT, 1, 2], [CUT, 2, 1]], 4):
            for p in (1, 2):
                self.assertEqual(seen(p, *ordered), (1, 0, 0, [], [], []))

    def test_links_go_both_ways_whatever_was_set_and_cut(self):
        steps = ([LINK, 1, 2], [CUT, 1, 2], [LINK, 2, 1], [CUT, 2, 1], [DELIVER, 1, 2], [DELIVER, 2, 1])
        for chosen in itertools.product(steps, repeat=5):
            rows = asked(*starts(2), *chosen, ALL_ARRIVE, [PROCESS, 1], [PROCESS, 2], [AIR])[-3:]
            first, second = read_process(rows[0]), read_process(rows[1])
            self.assertEqual(rows[2], [0])
            self.assertIn((first.links, second.links), (([], []), ([(2, 0)], [(1, 0)])), chosen)


class Watches(unittest.TestCase):
    def test_are_told_once_each(self):
        for between in range(4):
            calls = starts(3) + [[WATCH, 1, 2], [WATCH, 1, 2], [WATCH, 3, 2], [TURNS, between], [ENDS, 2, 9]]
            calls += [[WATCH, 1, 2], ALL_ARRIVE, ALL_ARRIVE]
            self.assertEqual(sorted(note[1] for note in box_of(1, *calls)), [1, 2, 4])
            self.assertEqual([note[1] for note in box_of(3, *calls)], [3])
            self.assertEqual(seen(1, *calls).watches, [])

    def test_set_on_one_who_had_ended(self):
        calls = starts(2) + [[ENDS, 2, 9], [WATCH, 1, 2], ALL_ARRIVE]
        self.assertEqual(box_of(1, *calls), [(2, 1, 3)])

    def test_taken_back_are_not_told(self):
        for between in range(2):
            calls = starts(2) + [[WATCH, 1, 2], [TURNS, between], [ENDS, 2, 9], [UNWATCH, 1, 1], ALL_ARRIVE]
            self.assertEqual(box_of(1, *calls), [])


class Chance(unittest.TestCase):
    """Walks that are the same each time: their source of chance starts from a written number."""

    def walk(self, seed):
        chance = random.Random(seed)
        calls = starts(2)
        for each in range(chance.randint(5, 70)):
            calls.append(chance_call(chance))
        return calls

    def settled(self, calls):
        """What process and box tell of each who is there when all has arrived."""
        rows = asked(*calls, ALL_ARRIVE, *LOOKS)
        self.assertLessEqual(len(rows), 100)
        told = rows[-len(LOOKS):]
        self.assertEqual(told[0], [0])
        processes, boxes = told[1:13], told[13:]
        there = [p for p in range(1, 13) if processes[p - 1] != [-1]]
        return {p: read_process(processes[p - 1]) for p in there}, {p: read_box(boxes[p - 1]) for p in there}

    def test_when_all_has_arrived(self):
        for seed in range(1500):
            calls = self.walk(seed)
            processes, boxes = self.settled(calls)
            self.check_links(processes)
            self.check_watches(processes)
            self.check_told_once(calls, processes, boxes)

    def check_links(self, processes):
        for p, one in processes.items():
            for q, number in one.links:
                self.assertEqual(number, 0)
                self.assertEqual((one.lives, processes[q].lives), (1, 1))
                self.assertIn((p, 0), processes[q].links)

    def check_watches(self, processes):
        for p, one in processes.items():
            for number, q in one.watches:
                self.assertEqual((one.lives, processes[q].lives), (1, 1))
                self.assertIn((number, p), processes[q].watched)
            for number, q in one.watched:
                self.assertIn((number, p), processes[q].watches)

    def check_told_once(self, calls, processes, boxes):
        begun, taken_back = {}, set()
        for call, row in zip(calls, asked(*calls)):
            if call[0] == WATCH and row[0] > 0:
                begun[row[0]] = call[1]
            if call[0] == CHILD and call[2] == 2 and row[0] > 0:
                begun[row[1]] = call[1]
            if call[0] == UNWATCH and row == [1]:
                taken_back.add(call[2])
        for number, whose in begun.items():
            told = [p for p in boxes for note in boxes[p] if note[:2] == (2, number)]
            if number in taken_back:
                self.assertEqual(told, [])
            elif processes[whose].lives:
                still = [watch[0] for watch in processes[whose].watches].count(number)
                self.assertEqual(told.count(whose) + still, 1)
            self.assertLessEqual(len(told), 1)

    def test_nothing_is_kept_from_one_walk_to_the_next(self):
        for seed in range(50):
            calls = self.walk(seed)
            first = asked(*calls)
            asked(*self.walk(seed + 1))
            self.assertEqual(asked(*calls), first)

    def test_call_by_call_is_the_same_as_all_at_once(self):
        for seed in range(50):
            calls = self.walk(seed)
            rows = asked(*calls)
            taken = [call for call, row in zip(calls, rows) if row[0] >= 0]
            # To look at all behind every call changes nothing of what comes.
            world = made()
            for call, row in zip(calls, rows):
                looks(world)
                self.assertEqual(answer_of(world, call), row)
            self.assertEqual(looks(world), looks(made(*taken)))


def chance_call(chance):
    kind = chance.choice((START, CHILD, LINK, LINK, LINK, CUT, CUT, WATCH, WATCH, UNWATCH, ENDS, STOP,
                          TRAP, SAY, DELIVER, DELIVER, DELIVER, DELIVER, TURNS))
    p, q = chance.randint(1, 5), chance.randint(1, 5)
    written = {
        START: [START] if chance.random() < 0.2 else [SAY, p, q, 1],
        CHILD: [CHILD, p, chance.randint(0, 2)] if chance.random() < 0.4 else [DELIVER, p, q],
        UNWATCH: [UNWATCH, p, chance.randint(1, 9)],
        ENDS: [ENDS, p, chance.choice((0, 0, 1, 9))] if chance.random() < 0.3 else [LINK, p, q],
        STOP: [STOP, p, q, chance.choice((0, 0, 1, 9))] if chance.random() < 0.3 else [CUT, p, q],
        TRAP: [TRAP, p, chance.choice((0, 1, 1))],
        SAY: [SAY, p, q, chance.randint(0, 3)],
        TURNS: [TURNS, chance.randint(0, 3)],
    }
    return written.get(kind, [kind, p, q])


if __name__ == "__main__":
    unittest.main()
