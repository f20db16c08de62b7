"""[2, 9, 10] works run by one clock."""

import copy
import random
import unittest

from drawn import drawn_works, lists_within, reckoned, upto
from ownclocks.clock import run

B = 1000000000
LONG = 123456789012345678901234567890


class Ordinary(unittest.TestCase):
    def test_one_station_alone(self):
        for told in (("relay", 5), ("sorter",), ("thinner", 2), ("joiner",), ("sink",)):
            self.assertEqual(run(([told], [], []), 60), [[]])
            self.assertEqual(run(([told], [], [(0, 3, 7), (0, 1, 8)]), 60), [[(1, -1, 8), (3, -1, 7)]])

    def test_a_piece_comes_at_the_time_of_taking_and_the_delay_together(self):
        for delay in range(1, 10):
            for time in (0, 1, 17, 50):
                works = ([("relay", -3), ("sink",)], [(0, 1, delay)], [(0, time, 10)])
                self.assertEqual(run(works, 60), [[(time, -1, 10)], [(time + delay, 0, 7)]])

    def test_a_line_of_eight_stations(self):
        works = ([("relay", 1)] * 8, [(k, k + 1, k + 1) for k in range(7)], [(0, 2, 100)])
        asked = [[(2, -1, 100)]] + [[(2 + k * (k + 1) // 2, k - 1, 100 + k)] for k in range(1, 8)]
        self.assertEqual(run(works, 60), asked)

    def test_the_relay_takes_its_first_belt(self):
        works = ([("relay", 2), ("sink",), ("sink",)], [(0, 2, 4), (0, 1, 1)], [(0, 0, 5)])
        self.assertEqual(run(works, 60), [[(0, -1, 5)], [], [(4, 0, 7)]])

    def test_the_sorter(self):
        belts = [(0, 1, 3), (0, 2, 1), (0, 1, 2)]
        feeds = [(0, 0, -1), (0, 0, 0), (0, 0, 1), (0, 1, -3), (0, 1, 5), (0, 1, 7)]
        works = ([("sorter",), ("sink",), ("sink",)], belts, feeds)
        asked = [(2, 2, -1), (3, 0, 0), (3, 2, 5), (4, 0, -3)]
        self.assertEqual(run(works, 60)[1:], [asked, [(1, 1, 1), (2, 1, 7)]])

    def test_the_thinner_counts_over_its_ways(self):
        works = (
            [("relay", 0), ("thinner", 3), ("sink",)], [(0, 1, 1), (1, 2, 2)],
            [(1, 1, 1), (0, 0, 2), (0, 1, 3), (1, 3, 4), (0, 3, 5), (1, 9, 6)],
        )
        taken = [(1, -1, 1), (1, 0, 2), (2, 0, 3), (3, -1, 4), (4, 0, 5), (9, -1, 6)]
        self.assertEqual(run(works, 60)[1:], [taken, [(3, 1, 1), (3, 1, 2), (5, 1, 4), (6, 1, 5)]])

    def test_the_joiner_waits_for_its_last_way(self):
        works = (
            [("relay", 0), ("joiner",), ("sink",)], [(0, 1, 5), (1, 2, 1)],
            [(1, 0, 1), (1, 2, 10), (0, 1, 100), (0, 7, 1000), (0, 8, 5)],
        )
        taken = [(0, -1, 1), (2, -1, 10), (6, 0, 100), (12, 0, 1000), (13, 0, 5)]
        self.assertEqual(run(works, 60)[1:], [taken, [(7, 1, 101), (13, 1, 1010)]])

    def test_a_sink_with_belts_puts_nothing(self):
        works = ([("sink",), ("relay", 0)], [(0, 1, 1), (0, 0, 1)], [(0, 0, 1), (0, 9, 2)])
        self.assertEqual(run(works, 60), [[(0, -1, 1), (9, -1, 2)], []])

    def test_all_five_kinds(self):
        works = (
            [("relay", 1), ("sorter",), ("thinner", 2), ("joiner",), ("sink",)],
            [(0, 1, 2), (1, 2, 1), (1, 3, 1), (2, 3, 3), (3, 4, 9)],
            [(0, 0, 1), (0, 0, 4), (0, 1, 2), (0, 4, 3), (0, 5, 10)],
        )
        asked = [
            [(0, -1, 1), (0, -1, 4), (1, -1, 2), (4, -1, 3), (5, -1, 10)],
            [(2, 0, 2), (2, 0, 5), (3, 0, 3), (6, 0, 4), (7, 0, 11)],
            [(3, 1, 2), (7, 1, 4)],
            [(3, 2, 5), (4, 2, 3), (6, 3, 2), (8, 2, 11)],
            [(15, 4, 7)],
        ]
        self.assertEqual(run(works, 60), asked)

    def test_pieces_have_no_bound(self):
        works = ([("relay", B), ("relay", B), ("sink",)], [(0, 1, 1), (1, 2, 1)], [(0, 0, B), (0, 1, LONG)])
        self.assertEqual(run(works, 60)[2], [(2, 1, 3 * B), (3, 1, LONG + 2 * B)])


class Rings(unittest.TestCase):
    def test_a_belt_to_its_own_start(self):
        works = ([("relay", 2)], [(0, 0, 9)], [(0, 5, 1)])
        self.assertEqual(run(works, 60), [[(5, -1, 1)] + [(5 + 9 * k, 0, 1 + 2 * k) for k in range(1, 7)]])
        self.assertEqual(run(([("relay", 1)], [(0, 0, 1)], [(0, 0, 0)]), 60)[0][60], (60, 0, 60))

    def test_its_own_start_and_the_door_at_one_time(self):
        works = ([("relay", 10)], [(0, 0, 2)], [(0, 2, 5), (0, 0, 1), (0, 4, 7)])
        asked = [(0, -1, 1), (2, -1, 5), (2, 0, 11), (4, -1, 7), (4, 0, 15), (4, 0, 21)]
        self.assertEqual(run(works, 5), [asked])

    def test_a_ring_of_three(self):
        works = ([("relay", 1)] * 3, [(0, 1, 1), (1, 2, 2), (2, 0, 3)], [(1, 4, 0)])
        asked = [[(9, 2, 2), (15, 2, 5)], [(4, -1, 0), (10, 0, 3), (16, 0, 6)], [(6, 1, 1), (12, 1, 4)]]
        self.assertEqual(run(works, 16), asked)

    def test_a_joiner_in_a_ring_waits_for_itself(self):
        works = ([("joiner",)], [(0, 0, 1)], [(0, 0, 5)])
        self.assertEqual(run(works, 60), [[(0, -1, 5)]])


class Ties(unittest.TestCase):
    def test_the_door_ahead_of_all_and_the_lesser_belt_first(self):
        stations = [("relay", 0)] * 3 + [("sink",)]
        belts = [(2, 3, 1), (0, 3, 5), (1, 3, 3)]
        feeds = [(0, 0, 10), (1, 2, 20), (2, 4, 30), (3, 5, 40)]
        asked = [(5, -1, 40), (5, 0, 30), (5, 1, 10), (5, 2, 20)]
        self.assertEqual(run((stations, belts, feeds), 60)[3], asked)

    def test_the_lesser_belt_counts_not_the_lesser_station(self):
        for first, second in ((0, 1), (1, 0)):
            works = ([("relay", 0)] * 2 + [("sink",)], [(first, 2, 1), (second, 2, 1)], [(0, 0, 7), (1, 0, 8)])
            self.assertEqual(run(works, 60)[2], [(1, 0, 7 + first), (1, 1, 7 + second)])

    def test_the_goal_may_have_a_lesser_number_than_the_start(self):
        works = ([("sink",), ("relay", 0), ("relay", 0)], [(2, 0, 1), (1, 0, 1)], [(1, 0, 7), (2, 0, 8), (0, 1, 9)])
        self.assertEqual(run(works, 60)[0], [(1, -1, 9), (1, 0, 8), (1, 1, 7)])

    def test_at_the_door_as_they_stand_in_the_list(self):
        works = ([("sink",)], [], [(0, 3, 9), (0, 1, 5), (0, 3, 2), (0, 3, 9), (0, 1, -5), (0, 3, 4)])
        pieces = [(1, 5), (1, -5), (3, 9), (3, 2), (3, 9), (3, 4)]
        self.assertEqual(run(works, 60), [[(time, -1, piece) for time, piece in pieces]])

    def test_of_one_time_and_way_in_the_order_of_putting(self):
        works = ([("relay", 0), ("sink",)], [(0, 1, 4)], [(0, 2, 9), (0, 2, 3), (0, 2, 6), (0, 2, -1)])
        self.assertEqual(run(works, 60)[1], [(6, 0, 9), (6, 0, 3), (6, 0, 6), (6, 0, -1)])

    def test_two_belts_between_the_same_two_stations(self):
        feeds = [(0, 0, 1), (0, 0, 2), (0, 0, 3), (0, 0, 4)]
        like = ([("sorter",), ("sink",)], [(0, 1, 2), (0, 1, 2)], feeds)
        self.assertEqual(run(like, 60)[1], [(2, 0, 2), (2, 0, 4), (2, 1, 1), (2, 1, 3)])
        other = ([("sorter",), ("sink",)], [(0, 1, 3), (0, 1, 2)], feeds)
        self.assertEqual(run(other, 60)[1], [(2, 1, 1), (2, 1, 3), (3, 0, 2), (3, 0, 4)])

    def test_the_order_of_a_tie_changes_what_a_thinner_loses(self):
        for belts, asked in (([(0, 2, 1), (1, 2, 1)], 7), ([(1, 2, 1), (0, 2, 1)], 8)):
            stations = [("relay", 0), ("relay", 0), ("thinner", 2), ("sink",)]
            works = (stations, belts + [(2, 3, 1)], [(0, 0, 7), (1, 0, 8)])
            self.assertEqual(run(works, 60)[3], [(2, 2, asked)])


class Moments(unittest.TestCase):
    WORKS = (
        [("relay", 1), ("relay", 0), ("sink",)], [(0, 1, 9), (1, 2, 1), (2, 0, 1)],
        [(0, 50, 5), (0, 41, 6), (1, 50, 7), (2, 3, 8), (0, 49, 9)],
    )

    def test_each_edge(self):
        asked = [
            [(41, -1, 6), (49, -1, 9), (50, -1, 5)],
            [(50, -1, 7), (50, 0, 7), (58, 0, 10), (59, 0, 6)],
            [(3, -1, 8), (51, 1, 7), (51, 1, 7), (59, 1, 10), (60, 1, 6)],
        ]
        for until in (60, 59, 58, 51, 50, 49, 41, 40, 4, 3):
            self.assertEqual(run(self.WORKS, until), upto(asked, until))
        self.assertEqual(run(self.WORKS, 60), asked)
        for until in (0, 1, 2):
            self.assertEqual(run(self.WORKS, until), [[], [], []])

    def test_the_moment_0(self):
        works = ([("relay", 0), ("sink",)], [(0, 1, 1)], [(0, 0, 4), (1, 1, 3), (0, 0, 2)])
        self.assertEqual(run(works, 0), [[(0, -1, 4), (0, -1, 2)], []])
        self.assertEqual(run(works, 1)[1], [(1, -1, 3), (1, 0, 4), (1, 0, 2)])


class Drawn(unittest.TestCase):
    def test_reckoned_a_second_time(self):
        sizes = [set(), set(), set()]
        for seed in range(400):
            works = drawn_works(seed)
            for size, part in zip(sizes, works):
                size.add(len(part))
            for until in (0, 50, 60, seed % 61):
                self.assertEqual(run(works, until), reckoned(works, until)[0], (seed, until))
        self.assertTrue({1, 8} <= sizes[0] and {0, 12} <= sizes[1] and {0, 60} <= sizes[2], sizes)

    def test_a_later_moment_begins_with_an_earlier_one(self):
        for seed in range(60):
            works = drawn_works(1000 + seed)
            later = run(works, 60)
            for until in range(60, -1, -1):
                earlier = run(works, until)
                self.assertEqual(earlier, upto(later, until))
                for long, short in zip(later, earlier):
                    self.assertEqual(long[:len(short)], short)
                later = earlier

    def test_feeds_of_other_times_or_stations_may_be_turned_about(self):
        turned = 0
        for seed in range(80):
            stations, belts, feeds = drawn_works(2000 + seed)
            chance = random.Random(seed)
            groups = {}
            for feed in feeds:
                groups.setdefault(feed[:2], []).append(feed)
            # Drawing from the groups at random turns all about but the feeds of one time and station.
            order = [feed[:2] for feed in feeds]
            chance.shuffle(order)
            other = [groups[key].pop(0) for key in order]
            turned += other != feeds
            self.assertEqual(run((stations, belts, other), 60), run((stations, belts, feeds), 60))
        self.assertGreater(turned, 30)

    def test_somewhat_beyond_the_bounds_nothing_is_refused(self):
        stations = [("relay", B + 1)] * 9 + [("thinner", 10)]
        belts = [(k % 10, (k + 1) % 10, 10 + k) for k in range(13)]
        works = (stations, belts, [(k % 10, k, B + k) for k in range(63)])
        self.assertEqual(run(works, 70), reckoned(works, 70)[0])


class AskersOwn(unittest.TestCase):
    def test_nothing_handed_in_is_changed(self):
        for seed in range(30):
            works = drawn_works(seed)
            before = copy.deepcopy(works)
            run(works, 60)
            self.assertEqual(works, before)

    def test_kinds(self):
        told = run(drawn_works(5), 60)
        self.assertIs(type(told), list)
        self.assertTrue(any(told))
        for events in told:
            self.assertIs(type(events), list)
            for event in events:
                self.assertIs(type(event), tuple)
                self.assertEqual([type(value) for value in event], [int] * 3)

    def test_every_list_is_a_new_one(self):
        works = ([("relay", 0), ("sink",), ("sink",), ("sink",)], [(0, 1, 1)], [(0, 0, 5)])
        first, second = run(works, 60), run(works, 60)
        found = lists_within(first) + lists_within(second) + lists_within(works)
        self.assertEqual(len({id(each) for each in found}), len(found))
        kept = copy.deepcopy(second)
        for events in first:
            events.append((9, 9, 9))
        first.clear()
        self.assertEqual((second, run(works, 60)), (kept, kept))


if __name__ == "__main__":
    unittest.main()
