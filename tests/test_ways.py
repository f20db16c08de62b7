"""[2, 5] the ways, the door and the leaving belts of a station."""

import copy
import unittest

from ownclocks.works import door, leaving, ways

WORKS = (
    [("relay", 1), ("sorter",), ("joiner",), ("sink",), ("thinner", 2)],
    [(1, 2, 3), (0, 1, 1), (1, 1, 2), (2, 0, 4), (1, 2, 1), (0, 3, 9)],
    [(2, 9, 4), (0, 5, 1), (2, 0, -7), (0, 5, 1), (2, 9, 3), (0, 5, 0), (2, 0, 8), (0, 4, 6)],
)


class Ways(unittest.TestCase):
    def test_ways(self):
        asked = [[-1, 3], [1, 2], [-1, 0, 4], [5], []]
        self.assertEqual([ways(WORKS, station) for station in range(5)], asked)

    def test_leaving(self):
        asked = [[1, 5], [0, 2, 4], [3], [], []]
        self.assertEqual([leaving(WORKS, station) for station in range(5)], asked)

    def test_door(self):
        asked = [
            [(4, 6), (5, 1), (5, 1), (5, 0)],
            [],
            [(0, -7), (0, 8), (9, 4), (9, 3)],
            [],
            [],
        ]
        self.assertEqual([door(WORKS, station) for station in range(5)], asked)

    def test_only_a_door_and_nothing_at_all(self):
        works = ([("sink",), ("sink",)], [], [(1, 50, 0)])
        self.assertEqual((ways(works, 0), door(works, 0), leaving(works, 0)), ([], [], []))
        self.assertEqual((ways(works, 1), door(works, 1), leaving(works, 1)), ([-1], [(50, 0)], []))

    def test_a_belt_to_its_own_start_both_comes_and_leaves(self):
        works = ([("relay", 0)], [(0, 0, 1)], [(0, 0, 0)])
        self.assertEqual((ways(works, 0), leaving(works, 0)), ([-1, 0], [0]))

    def test_many_belts_rise(self):
        works = ([("sink",), ("sink",)], [(0, 1, 1)] * 12, [(1, 0, 0)])
        self.assertEqual(ways(works, 1), list(range(-1, 12)))
        self.assertEqual(leaving(works, 0), list(range(12)))

    def test_told_lists_are_the_askers_own(self):
        works = copy.deepcopy(WORKS)
        for ask in (ways, door, leaving):
            for station in range(5):
                first = ask(works, station)
                kept = list(first)
                self.assertIs(type(first), list)
                self.assertIsNot(ask(works, station), first)
                first.append(99)
                first[0] = None
                self.assertEqual(ask(works, station), kept)
        self.assertEqual(works, WORKS)

    def test_the_changed_works_is_told_anew(self):
        works = copy.deepcopy(WORKS)
        ways(works, 4)
        works[1].append((4, 4, 1))
        works[2].append((4, 0, 5))
        self.assertEqual((ways(works, 4), door(works, 4), leaving(works, 4)), ([-1, 6], [(0, 5)], [6]))


if __name__ == "__main__":
    unittest.main()
