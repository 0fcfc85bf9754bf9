"""What each of the nine signals does, arriving at one who lives and at one who has ended."""

import unittest

from helper import CHILD, CUT, DELIVER, ENDS, LINK, SAY, START, STOP, TRAP, TURNS, UNWATCH, WATCH
from helper import box_of, in_air, looks, made, seen, starts
from linkwatches.world import answer_of

LINKED = [[START], [CHILD, 1, 1]]
ENDED = (0, 44, 0, [], [], [])


class Word(unittest.TestCase):
    def test_at_one_who_lives(self):
        calls = starts(2) + [[SAY, 1, 2, 77], [DELIVER, 1, 2]]
        self.assertEqual(box_of(2, *calls), [(0, 1, 77)])
        self.assertEqual(seen(2, *calls), (1, 0, 0, [], [], []))
        self.assertEqual(in_air(*calls), [])

    def test_at_itself(self):
        self.assertEqual(box_of(2, *starts(2), [SAY, 2, 2, 0], [DELIVER, 2, 2]), [(0, 2, 0)])

    def test_behind_the_notes_that_are_there(self):
        calls = starts(3) + [[SAY, 1, 3, 10], [SAY, 2, 3, 20], [SAY, 1, 3, 11]]
        calls += [[DELIVER, 2, 3], [DELIVER, 1, 3], [DELIVER, 1, 3]]
        self.assertEqual(box_of(3, *calls), [(0, 2, 20), (0, 1, 10), (0, 1, 11)])

    def test_whether_it_traps_or_not(self):
        self.assertEqual(box_of(2, *starts(2), [TRAP, 2, 1], [SAY, 1, 2, 77], [DELIVER, 1, 2]), [(0, 1, 77)])

    def test_from_one_who_has_ended_meanwhile(self):
        self.assertEqual(box_of(2, *starts(2), [SAY, 1, 2, 77], [ENDS, 1, 9], [DELIVER, 1, 2]), [(0, 1, 77)])

    def test_at_one_who_has_ended(self):
        calls = starts(2) + [[ENDS, 2, 44], [SAY, 1, 2, 77], [DELIVER, 1, 2]]
        self.assertEqual(box_of(2, *calls), [])
        self.assertEqual(seen(2, *calls), ENDED)
        self.assertEqual(in_air(*calls), [])


class Link(unittest.TestCase):
    def test_where_there_is_none(self):
        calls = starts(2) + [[LINK, 1, 2], [DELIVER, 1, 2]]
        self.assertEqual(seen(1, *calls).links, [(2, 0)])
        self.assertEqual(seen(2, *calls), (1, 0, 0, [(1, 0)], [], []))
        self.assertEqual(in_air(*calls), [])

    def test_where_there_is_one_to_another(self):
        calls = starts(3) + [[LINK, 2, 3], [LINK, 1, 2], [DELIVER, 1, 2]]
        self.assertEqual(seen(2, *calls).links, [(1, 0), (3, 0)])

    def test_where_one_holds(self):
        calls = starts(2) + [[LINK, 1, 2], [LINK, 2, 1], [DELIVER, 1, 2]]
        self.assertEqual(seen(2, *calls).links, [(1, 0)])
        self.assertEqual(in_air(*calls), [(2, 1, (1,))])

    def test_where_one_is_being_cut(self):
        calls = starts(2) + [[LINK, 1, 2], [LINK, 2, 1], [CUT, 2, 1], [DELIVER, 1, 2]]
        self.assertEqual(seen(2, *calls).links, [(1, 1)])
        self.assertEqual(in_air(*calls), [(2, 1, (1,)), (2, 1, (2, 1))])

    def test_where_one_was_cut_and_is_gone(self):
        calls = LINKED + [[CUT, 1, 2], [TURNS, 9], [LINK, 1, 2], [DELIVER, 1, 2]]
        self.assertEqual(seen(2, *calls).links, [(1, 0)])

    def test_at_one_who_has_ended(self):
        calls = starts(2) + [[ENDS, 2, 44], [LINK, 1, 2], [DELIVER, 1, 2]]
        self.assertEqual(seen(2, *calls), ENDED)
        self.assertEqual(seen(1, *calls).links, [(2, 0)])
        self.assertEqual(in_air(*calls), [(2, 1, (4, 3))])

    def test_at_one_who_has_ended_the_answer_ends_who_does_not_trap(self):
        calls = starts(2) + [[ENDS, 2, 44], [LINK, 1, 2], [TURNS, 9]]
        self.assertEqual(seen(1, *calls), (0, 3, 0, [], [], []))

    def test_at_one_who_has_ended_the_answer_is_noted_by_who_traps(self):
        calls = starts(2) + [[TRAP, 1, 1], [ENDS, 2, 44], [LINK, 1, 2], [TURNS, 9]]
        self.assertEqual(seen(1, *calls), (1, 0, 1, [], [], []))
        self.assertEqual(box_of(1, *calls), [(1, 2, 3)])


class Cut(unittest.TestCase):
    def test_where_the_link_holds(self):
        calls = LINKED + [[CUT, 1, 2], [DELIVER, 1, 2]]
        self.assertEqual(seen(2, *calls), (1, 0, 0, [], [], []))
        self.assertEqual(seen(1, *calls).links, [(2, 1)])
        self.assertEqual(in_air(*calls), [(2, 1, (3, 1))])
        self.assertEqual(box_of(2, *calls), [])

    def test_where_it_is_being_cut(self):
        calls = LINKED + [[CUT, 1, 2], [CUT, 2, 1], [DELIVER, 1, 2]]
        self.assertEqual(seen(2, *calls).links, [(1, 2)])
        self.assertEqual(in_air(*calls), [(2, 1, (2, 2)), (2, 1, (3, 1))])

    def test_where_it_is_not_there(self):
        # A link's own signal always comes ahead of its cut, so this one is put on its way by hand.
        world = made(*starts(3), [LINK, 2, 3])
        world.send(1, 2, (2, 7))
        self.assertEqual(answer_of(world, [DELIVER, 1, 2]), [2, 7])
        self.assertEqual(world.signals, [(2, 3, (1,)), (2, 1, (3, 7))])
        self.assertEqual(world.processes[2].links, {3: 0})

    def test_leaves_links_to_others(self):
        calls = LINKED + [[CHILD, 2, 1], [CUT, 1, 2], [DELIVER, 1, 2]]
        self.assertEqual(seen(2, *calls).links, [(3, 0)])

    def test_is_felt_by_nobody_as_an_end(self):
        calls = LINKED + [[TRAP, 1, 1], [TRAP, 2, 1], [CUT, 1, 2], [TURNS, 9]]
        for p in (1, 2):
            self.assertEqual(box_of(p, *calls), [])
            self.assertEqual(seen(p, *calls), (1, 0, 1, [], [], []))

    def test_at_one_who_has_ended(self):
        calls = LINKED + [[ENDS, 2, 44], [CUT, 1, 2], [DELIVER, 1, 2]]
        self.assertEqual(seen(2, *calls), ENDED)
        self.assertEqual(in_air(*calls), [(2, 1, (4, 44)), (2, 1, (3, 1))])


class Heard(unittest.TestCase):
    def test_with_the_number_of_the_cut(self):
        calls = LINKED + [[CUT, 1, 2], [DELIVER, 1, 2], [DELIVER, 2, 1]]
        self.assertEqual(seen(1, *calls), (1, 0, 0, [], [], []))
        self.assertEqual(in_air(*calls), [])

    def test_with_an_older_number(self):
        calls = LINKED + [[CUT, 1, 2], [LINK, 1, 2], [CUT, 1, 2], [DELIVER, 1, 2], [DELIVER, 2, 1]]
        self.assertEqual(seen(1, *calls).links, [(2, 2)])
        self.assertEqual(seen(1, *calls, [DELIVER, 1, 2], [DELIVER, 1, 2]).links, [(2, 2)])
        self.assertEqual(seen(1, *calls, [DELIVER, 1, 2], [DELIVER, 1, 2], [DELIVER, 2, 1]).links, [])

    def test_after_the_link_was_set_again(self):
        calls = LINKED + [[CUT, 1, 2], [LINK, 1, 2], [DELIVER, 1, 2], [DELIVER, 2, 1]]
        self.assertEqual(seen(1, *calls).links, [(2, 0)])
        self.assertEqual(seen(2, *calls).links, [])
        self.assertEqual(seen(2, *calls, [DELIVER, 1, 2]).links, [(1, 0)])

    def test_after_the_link_is_gone(self):
        calls = LINKED + [[CUT, 1, 2], [ENDS, 2, 5], [DELIVER, 1, 2], [DELIVER, 2, 1], [DELIVER, 2, 1]]
        self.assertEqual(seen(1, *calls), (1, 0, 0, [], [], []))

    def test_leaves_what_is_being_cut_to_another(self):
        calls = LINKED + [[CHILD, 1, 1], [CUT, 1, 2], [CUT, 1, 3], [DELIVER, 1, 3], [DELIVER, 3, 1]]
        self.assertEqual(seen(1, *calls).links, [(2, 1)])

    def test_at_one_who_has_ended(self):
        calls = LINKED + [[CUT, 1, 2], [ENDS, 1, 44], [DELIVER, 1, 2], [DELIVER, 2, 1]]
        self.assertEqual(seen(1, *calls), ENDED)
        self.assertEqual(in_air(*calls), [])


class Ended(unittest.TestCase):
    def test_with_a_link_that_holds(self):
        for why in (1, 2, 3, 5, 99):
            calls = LINKED + [[ENDS, 1, why], [DELIVER, 1, 2]]
            self.assertEqual(seen(2, *calls), (0, why, 0, [], [], []))
            self.assertEqual(box_of(2, *calls), [])
            self.assertEqual(in_air(*calls), [])

    def test_with_why_0_only_the_link_is_gone(self):
        calls = LINKED + [[ENDS, 1, 0], [DELIVER, 1, 2]]
        self.assertEqual(seen(2, *calls), (1, 0, 0, [], [], []))
        self.assertEqual(box_of(2, *calls), [])

    def test_at_one_who_traps(self):
        for why in (0, 1, 2, 3, 5, 99):
            calls = LINKED + [[TRAP, 2, 1], [ENDS, 1, why], [DELIVER, 1, 2]]
            self.assertEqual(seen(2, *calls), (1, 0, 1, [], [], []))
            self.assertEqual(box_of(2, *calls), [(1, 1, why)])

    def test_at_one_who_traps_no_more(self):
        calls = LINKED + [[TRAP, 2, 1], [TRAP, 2, 0], [ENDS, 1, 5], [DELIVER, 1, 2]]
        self.assertEqual(seen(2, *calls), (0, 5, 0, [], [], []))

    def test_with_a_link_that_is_being_cut(self):
        for yes in (0, 1):
            for why in (0, 5):
                calls = LINKED + [[TRAP, 2, yes], [CUT, 2, 1], [ENDS, 1, why], [DELIVER, 1, 2]]
                self.assertEqual(seen(2, *calls), (1, 0, yes, [], [], []))
                self.assertEqual(box_of(2, *calls), [])

    def test_with_a_link_that_was_cut_and_set_again(self):
        calls = LINKED + [[CUT, 2, 1], [LINK, 2, 1], [ENDS, 1, 5], [DELIVER, 1, 2]]
        self.assertEqual(seen(2, *calls), (0, 5, 0, [], [], []))

    def test_without_a_link(self):
        # The link is set twice on one who has ended: the first answer takes it away, the second finds none.
        calls = starts(2) + [[TRAP, 1, 1], [ENDS, 2, 44], [LINK, 1, 2], [CUT, 1, 2], [LINK, 1, 2]]
        calls += [[DELIVER, 1, 2] for each in range(3)]
        self.assertEqual(in_air(*calls), [(2, 1, (4, 3)), (2, 1, (3, 1)), (2, 1, (4, 3))])
        calls += [[DELIVER, 2, 1] for each in range(2)]
        self.assertEqual(box_of(1, *calls), [(1, 2, 3)])
        self.assertEqual(box_of(1, *calls, [TRAP, 1, 0], [DELIVER, 2, 1]), [(1, 2, 3)])
        self.assertEqual(seen(1, *calls, [TRAP, 1, 0], [DELIVER, 2, 1]), (1, 0, 0, [], [], []))

    def test_goes_on_to_the_linked_of_the_linked_but_not_back(self):
        calls = LINKED + [[CHILD, 2, 1], [ENDS, 1, 5], [DELIVER, 1, 2]]
        self.assertEqual(in_air(*calls), [(2, 3, (4, 5))])
        self.assertEqual(seen(3, *calls, [DELIVER, 2, 3])[:2], (0, 5))

    def test_tells_watchers_and_watched_of_who_ends_by_it(self):
        calls = LINKED + [*starts(2), [WATCH, 3, 2], [DELIVER, 3, 2], [WATCH, 2, 4], [DELIVER, 2, 4]]
        calls += [[ENDS, 1, 5], [DELIVER, 1, 2]]
        self.assertEqual(in_air(*calls), [(2, 3, (8, 1, 5)), (2, 4, (7, 2))])

    def test_at_one_who_has_ended(self):
        calls = LINKED + [[ENDS, 2, 44], [ENDS, 1, 5], [DELIVER, 1, 2]]
        self.assertEqual(seen(2, *calls), ENDED)
        self.assertEqual(in_air(*calls), [(2, 1, (4, 44))])


class Stop(unittest.TestCase):
    def test_at_one_who_does_not_trap(self):
        for why in (2, 3, 5, 99):
            calls = starts(2) + [[STOP, 1, 2, why], [DELIVER, 1, 2]]
            self.assertEqual(seen(2, *calls), (0, why, 0, [], [], []))
            self.assertEqual(box_of(2, *calls), [])

    def test_with_why_0_at_one_who_does_not_trap(self):
        calls = starts(2) + [[STOP, 1, 2, 0], [DELIVER, 1, 2]]
        self.assertEqual(seen(2, *calls), (1, 0, 0, [], [], []))
        self.assertEqual(box_of(2, *calls), [])

    def test_at_one_who_traps(self):
        for why in (0, 2, 3, 5, 99):
            calls = starts(2) + [[TRAP, 2, 1], [STOP, 1, 2, why], [DELIVER, 1, 2]]
            self.assertEqual(seen(2, *calls), (1, 0, 1, [], [], []))
            self.assertEqual(box_of(2, *calls), [(3, 1, why)])

    def test_with_why_1_ends_with_2_whether_it_traps_or_not(self):
        for yes in (0, 1):
            calls = starts(2) + [[TRAP, 2, yes], [STOP, 1, 2, 1], [DELIVER, 1, 2]]
            self.assertEqual(seen(2, *calls), (0, 2, yes, [], [], []))
            self.assertEqual(box_of(2, *calls), [])

    def test_with_why_1_tells_the_linked_2_which_can_be_trapped(self):
        calls = LINKED + [[CHILD, 2, 2], [TRAP, 1, 1], [STOP, 3, 2, 1], [DELIVER, 3, 2]]
        self.assertEqual(in_air(*calls), [(2, 1, (4, 2)), (2, 3, (7, 1))])
        self.assertEqual(box_of(1, *calls, [DELIVER, 2, 1]), [(1, 2, 2)])

    def test_at_itself(self):
        self.assertEqual(seen(1, [START], [STOP, 1, 1, 5], [DELIVER, 1, 1])[:2], (0, 5))
        self.assertEqual(seen(1, [START], [TRAP, 1, 1], [STOP, 1, 1, 1], [DELIVER, 1, 1])[:2], (0, 2))
        self.assertEqual(box_of(1, [START], [TRAP, 1, 1], [STOP, 1, 1, 5], [DELIVER, 1, 1]), [(3, 1, 5)])

    def test_needs_no_link_and_leaves_who_sent_it(self):
        calls = LINKED + [[STOP, 1, 2, 0], [DELIVER, 1, 2]]
        self.assertEqual(seen(1, *calls).links, [(2, 0)])
        self.assertEqual(seen(2, *calls).links, [(1, 0)])

    def test_at_one_who_has_ended(self):
        for why in (0, 1, 5):
            calls = starts(2) + [[TRAP, 2, 1], [ENDS, 2, 44], [STOP, 1, 2, why], [DELIVER, 1, 2]]
            self.assertEqual(seen(2, *calls), (0, 44, 1, [], [], []))
            self.assertEqual(box_of(2, *calls), [])
            self.assertEqual(in_air(*calls), [])


class Watch(unittest.TestCase):
    def test_at_one_who_lives(self):
        calls = starts(2) + [[WATCH, 1, 2], [DELIVER, 1, 2]]
        self.assertEqual(seen(2, *calls), (1, 0, 0, [], [], [(1, 1)]))
        self.assertEqual(seen(1, *calls), (1, 0, 0, [], [(1, 2)], []))
        self.assertEqual(in_air(*calls), [])
        self.assertEqual(box_of(2, *calls), [])

    def test_twice_from_the_same(self):
        calls = starts(2) + [[WATCH, 1, 2], [WATCH, 1, 2], [TURNS, 9]]
        self.assertEqual(seen(2, *calls).watched, [(1, 1), (2, 1)])

    def test_both_ways(self):
        calls = starts(2) + [[WATCH, 1, 2], [WATCH, 2, 1], [TURNS, 9]]
        self.assertEqual(seen(1, *calls), (1, 0, 0, [], [(1, 2)], [(2, 2)]))
        self.assertEqual(seen(2, *calls), (1, 0, 0, [], [(2, 1)], [(1, 1)]))

    def test_at_one_who_has_ended(self):
        calls = starts(2) + [[ENDS, 2, 44], [WATCH, 1, 2], [DELIVER, 1, 2]]
        self.assertEqual(seen(2, *calls), ENDED)
        self.assertEqual(in_air(*calls), [(2, 1, (8, 1, 3))])
        self.assertEqual(box_of(1, *calls, [DELIVER, 2, 1]), [(2, 1, 3)])
        self.assertEqual(seen(1, *calls, [DELIVER, 2, 1]), (1, 0, 0, [], [], []))


class Unwatch(unittest.TestCase):
    TWO = starts(3) + [[WATCH, 1, 3], [DELIVER, 1, 3], [UNWATCH, 1, 1], [WATCH, 2, 3]]

    def test_at_one_who_lives(self):
        calls = [[START], [CHILD, 1, 2], [UNWATCH, 1, 1], [DELIVER, 1, 2]]
        self.assertEqual(seen(2, *calls), (1, 0, 0, [], [], []))
        self.assertEqual(in_air(*calls), [])
        self.assertEqual(in_air(*calls, [ENDS, 2, 5]), [])

    def test_in_either_order_with_anothers_watch(self):
        self.assertEqual(seen(3, *self.TWO, [DELIVER, 1, 3], [DELIVER, 2, 3]).watched, [(2, 2)])
        self.assertEqual(seen(3, *self.TWO, [DELIVER, 2, 3]).watched, [(1, 1), (2, 2)])
        self.assertEqual(seen(3, *self.TWO, [DELIVER, 2, 3], [DELIVER, 1, 3]).watched, [(2, 2)])

    def test_behind_its_own_watch_and_ahead_of_the_next(self):
        calls = starts(2) + [[WATCH, 1, 2], [UNWATCH, 1, 1], [WATCH, 1, 2]]
        told = [seen(2, *calls, [TURNS, n]).watched for n in range(4)]
        self.assertEqual(told, [[], [(1, 1)], [], [(2, 1)]])

    def test_behind_the_next_watch(self):
        calls = starts(2) + [[WATCH, 1, 2], [WATCH, 1, 2], [UNWATCH, 1, 1]]
        told = [seen(2, *calls, [TURNS, n]).watched for n in range(4)]
        self.assertEqual(told, [[], [(1, 1)], [(1, 1), (2, 1)], [(2, 1)]])

    def test_of_the_middle_leaves_the_order_of_the_rest(self):
        calls = starts(2) + [[WATCH, 1, 2], [WATCH, 1, 2], [WATCH, 1, 2], [UNWATCH, 1, 2], [TURNS, 9]]
        self.assertEqual(seen(2, *calls).watched, [(1, 1), (3, 1)])

    def test_of_one_who_has_ended_by_its_end(self):
        calls = [[START], [CHILD, 1, 2], [ENDS, 1, 5], [DELIVER, 1, 2]]
        self.assertEqual(seen(2, *calls), (1, 0, 0, [], [], []))

    def test_of_a_number_that_is_not_there(self):
        world = made([START], [CHILD, 1, 2])
        before = looks(world)
        world.send(1, 2, (7, 9))
        self.assertEqual(answer_of(world, [DELIVER, 1, 2]), [7, 9])
        self.assertEqual(looks(world), before)

    def test_at_one_who_has_ended(self):
        calls = [[START], [CHILD, 1, 2], [UNWATCH, 1, 1], [ENDS, 2, 44], [DELIVER, 1, 2]]
        self.assertEqual(seen(2, *calls), ENDED)
        self.assertEqual(in_air(*calls), [(2, 1, (8, 1, 44))])


class Gone(unittest.TestCase):
    def test_of_a_watch_that_is_there(self):
        for why in (0, 1, 5, 99):
            calls = [[START], [CHILD, 1, 2], [ENDS, 2, why], [DELIVER, 2, 1]]
            self.assertEqual(seen(1, *calls), (1, 0, 0, [], [], []))
            self.assertEqual(box_of(1, *calls), [(2, 1, why)])
            self.assertEqual(in_air(*calls), [])

    def test_of_a_watch_that_was_taken_back(self):
        calls = [[START], [CHILD, 1, 2], [ENDS, 2, 5], [UNWATCH, 1, 1], [DELIVER, 2, 1]]
        self.assertEqual(box_of(1, *calls), [])
        self.assertEqual(seen(1, *calls), (1, 0, 0, [], [], []))

    def test_of_one_of_several_watches(self):
        calls = starts(3) + [[WATCH, 1, 2], [WATCH, 1, 3], [WATCH, 1, 2], [TURNS, 9], [ENDS, 2, 5], [DELIVER, 2, 1]]
        self.assertEqual(seen(1, *calls).watches, [(2, 3), (3, 2)])
        self.assertEqual(box_of(1, *calls), [(2, 1, 5)])
        self.assertEqual(box_of(1, *calls, [DELIVER, 2, 1]), [(2, 1, 5), (2, 3, 5)])

    def test_is_the_same_for_one_who_traps(self):
        calls = [[START], [CHILD, 1, 2], [TRAP, 1, 1], [ENDS, 2, 5], [DELIVER, 2, 1]]
        self.assertEqual(box_of(1, *calls), [(2, 1, 5)])

    def test_beside_ended_from_one_who_is_linked_and_watched(self):
        calls = LINKED + [[WATCH, 1, 2], [TURNS, 1], [TRAP, 1, 1], [ENDS, 2, 5], [TURNS, 9]]
        self.assertEqual(box_of(1, *calls), [(1, 2, 5), (2, 1, 5)])

    def test_at_one_who_has_ended(self):
        calls = [[START], [CHILD, 1, 2], [ENDS, 2, 5], [ENDS, 1, 44], [DELIVER, 2, 1]]
        self.assertEqual(seen(1, *calls), ENDED)
        self.assertEqual(box_of(1, *calls), [])
        self.assertEqual(in_air(*calls), [(1, 2, (7, 1))])


if __name__ == "__main__":
    unittest.main()
