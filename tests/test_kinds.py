"""[2, 8] what stations put when they take pieces."""

import copy
import unittest

from ownclocks.kinds import Joiner, Relay, Sink, Sorter, Station, Thinner, station_of

LONG = 123456789012345678901234567890
FIVE = (Relay, Sorter, Thinner, Joiner, Sink)


def made(kind, ways, belts):
    if kind is Relay:
        return Relay(ways, belts, 1)
    if kind is Thinner:
        return Thinner(ways, belts, 3)
    return kind(ways, belts)


def puts(station, way, pieces):
    return [station.take(way, piece) for piece in pieces]


class Classes(unittest.TestCase):
    def test_all_stand_under_station_and_none_under_another(self):
        for one in FIVE:
            self.assertTrue(issubclass(one, Station))
            self.assertIsNot(one, Station)
            for other in FIVE:
                self.assertEqual(issubclass(one, other), one is other)

    def test_without_belts_nothing_is_put(self):
        for kind in FIVE + (Station,):
            self.assertEqual(puts(made(kind, [-1], []), -1, [0, 1, -5, LONG, -LONG]), [None] * 5)

    def test_what_is_put_is_a_tuple(self):
        for kind in (Relay, Sorter, Thinner, Joiner):
            self.assertIs(type(made(kind, [0], [4]).take(0, 1)), tuple)

    def test_handed_lists_are_neither_changed_nor_kept(self):
        for kind in FIVE + (Station,):
            ways, belts = [-1, 2], [3, 5]
            changed, whole = made(kind, ways, belts), made(kind, [-1, 2], [3, 5])
            self.assertEqual((ways, belts), ([-1, 2], [3, 5]))
            ways.append(7)
            ways[0] = 9
            belts.clear()
            for way, piece in ((-1, 4), (-1, 5), (2, 6), (2, 7), (2, -1)):
                self.assertEqual(changed.take(way, piece), whole.take(way, piece))

    def test_taking_changes_no_handed_list(self):
        for kind in FIVE + (Station,):
            ways, belts = [-1, 2], [3, 5]
            station = made(kind, ways, belts)
            for way in (-1, 2, 2, -1):
                station.take(way, 5)
            self.assertEqual((ways, belts), ([-1, 2], [3, 5]))


class Puts(unittest.TestCase):
    def test_the_base_and_the_sink_put_nothing(self):
        for kind in (Station, Sink):
            for belts in ([], [0], [0, 1, 2]):
                self.assertEqual(puts(kind([-1, 3], belts), 3, [0, 1, -1, LONG]), [None] * 4)

    def test_relay(self):
        self.assertEqual(puts(Relay([0], [2], 5), 0, [1, -9, 0]), [(2, 6), (2, -4), (2, 5)])
        self.assertEqual(puts(Relay([0], [3, 7], -8), 0, [1, 8]), [(3, -7), (3, 0)])
        self.assertEqual(Relay([-1], [1, 2], 0).take(-1, LONG), (1, LONG))
        self.assertEqual(Relay([-1], [1], 1000000000).take(-1, LONG), (1, 123456789012345678902234567890))
        self.assertEqual(Relay([-1], [1], -1000000000).take(-1, -LONG), (1, -123456789012345678902234567890))

    def test_sorter(self):
        one = Sorter([-1], [4])
        self.assertEqual(puts(one, -1, [0, 1, -1, LONG]), [(4, 0), (4, 1), (4, -1), (4, LONG)])
        three = Sorter([-1], [2, 5, 9])
        pieces = [0, 1, 2, 3, 4, -1, -2, -3, -4, LONG + 1, -LONG - 1]
        asked = [2, 5, 9, 2, 5, 9, 5, 2, 9, 5, 9]
        self.assertEqual(puts(three, -1, pieces), list(zip(asked, pieces)))

    def test_thinner(self):
        self.assertEqual(puts(Thinner([0], [6], 2), 0, [1, 2, 3, 4]), [(6, 1), None, (6, 3), None])
        pieces = list(range(-10, 10))
        asked = [None if count % 9 == 0 else (1, piece) for count, piece in enumerate(pieces, start=1)]
        self.assertEqual(puts(Thinner([0], [1, 2], 9), 0, pieces), asked)
        self.assertEqual(puts(Thinner([0], [1], 3), 0, [LONG, -LONG, LONG]), [(1, LONG), (1, -LONG), None])

    def test_thinner_counts_over_all_its_ways(self):
        station = Thinner([-1, 2, 4], [7, 8], 3)
        events = [(-1, 10), (2, 11), (4, 12), (2, 13), (2, 14), (-1, 15), (4, 16)]
        asked = [(7, 10), (7, 11), None, (7, 13), (7, 14), None, (7, 16)]
        self.assertEqual([station.take(way, piece) for way, piece in events], asked)

    def test_thinner_somewhat_beyond_its_bounds(self):
        self.assertEqual(puts(Thinner([0], [1], 1), 0, [5, 6]), [None, None])
        self.assertEqual(puts(Thinner([0], [1], 0), 0, [5, 6]), [(1, 5), (1, 6)])
        self.assertEqual(Thinner([0], [1], 10).take(0, 5), (1, 5))

    def test_joiner_of_one_way(self):
        self.assertEqual(puts(Joiner([3], [6, 8]), 3, [1, 0, -4, LONG]), [(6, 1), (6, 0), (6, -4), (6, LONG)])

    def test_joiner_of_two_ways_keeps_the_order_of_taking(self):
        station = Joiner([-1, 5], [2])
        events = [(-1, 1), (-1, 20), (-1, 300), (5, 4000), (5, -50), (5, 6), (5, 7), (-1, 0)]
        asked = [None, None, None, (2, 4001), (2, -30), (2, 306), None, (2, 7)]
        self.assertEqual([station.take(way, piece) for way, piece in events], asked)

    def test_joiner_of_three_ways(self):
        station = Joiner([0, 1, 2], [4, 5])
        events = [(2, 1), (0, 10), (2, 2), (0, 20), (1, LONG), (1, -LONG), (1, 5), (0, 0), (2, 0)]
        asked = [None, None, None, None, (4, LONG + 11), (4, -LONG + 22), None, None, (4, 5)]
        self.assertEqual([station.take(way, piece) for way, piece in events], asked)

    def test_joiner_counts_noughts_as_pieces(self):
        station = Joiner([0, 1], [3])
        self.assertEqual([station.take(0, 0), station.take(1, 0)], [None, (3, 0)])


WORKS = (
    [("relay", -3), ("sorter",), ("thinner", 2), ("joiner",), ("sink",), ("relay", 1)],
    [(0, 1, 1), (1, 3, 1), (1, 2, 1), (2, 3, 1), (3, 4, 1), (0, 2, 1), (5, 5, 1), (4, 0, 1)],
    [(0, 0, 0), (1, 0, 0), (2, 0, 0), (5, 3, 1)],
)


class StationOf(unittest.TestCase):
    def test_every_kind(self):
        kinds = [Relay, Sorter, Thinner, Joiner, Sink, Relay]
        self.assertEqual([type(station_of(WORKS, k)) for k in range(6)], kinds)

    def test_what_each_puts(self):
        self.assertEqual(puts(station_of(WORKS, 0), -1, [1, 3]), [(0, -2), (0, 0)])
        self.assertEqual(puts(station_of(WORKS, 1), 0, [4, 5, -1]), [(1, 4), (2, 5), (2, -1)])
        thinner = station_of(WORKS, 2)
        self.assertEqual([thinner.take(-1, 1), thinner.take(2, 2), thinner.take(5, 3)], [(3, 1), None, (3, 3)])
        joiner = station_of(WORKS, 3)
        self.assertEqual([joiner.take(3, 1), joiner.take(3, 2), joiner.take(1, 5)], [None, None, (4, 6)])
        self.assertEqual(puts(station_of(WORKS, 4), 4, [1, 2]), [None, None])
        self.assertEqual(puts(station_of(WORKS, 5), 6, [1, 2]), [(6, 2), (6, 3)])

    def test_a_joiner_waits_for_its_door_too(self):
        joiner = station_of(([("joiner",)], [(0, 0, 1)], [(0, 0, 5)]), 0)
        self.assertEqual([joiner.take(-1, 5), joiner.take(0, 6)], [None, (0, 11)])

    def test_without_belts(self):
        for told in (("relay", 1), ("sorter",), ("thinner", 2), ("joiner",), ("sink",)):
            self.assertEqual(puts(station_of(([told], [], [(0, 0, 5)]), 0), -1, [5, 6]), [None, None])
            station_of(([told], [], []), 0)

    def test_two_objects_are_two(self):
        one, other = station_of(WORKS, 2), station_of(WORKS, 2)
        self.assertIsNot(one, other)
        self.assertEqual(one.take(-1, 1), (3, 1))
        self.assertEqual(other.take(-1, 1), (3, 1))
        self.assertIsNone(one.take(-1, 1))
        one, other = station_of(WORKS, 3), station_of(WORKS, 3)
        one.take(1, 5)
        self.assertIsNone(other.take(3, 6))
        self.assertEqual(one.take(3, 7), (4, 12))

    def test_the_works_changed_behind(self):
        works = copy.deepcopy(WORKS)
        changed = [station_of(works, k) for k in range(6)]
        self.assertEqual(works, WORKS)
        for part in works:
            part.reverse()
            part.append(("relay", 9, 9))
        works[1].clear()
        whole = [station_of(WORKS, k) for k in range(6)]
        events = [(0, -1, 7), (1, 0, 3), (2, 5, 3), (2, 2, 4), (3, 1, 5), (3, 3, 5), (4, 4, 1), (5, 6, 8)]
        for station, way, piece in events:
            self.assertEqual(changed[station].take(way, piece), whole[station].take(way, piece))


if __name__ == "__main__":
    unittest.main()
