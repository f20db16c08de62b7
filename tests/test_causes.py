"""[2, 11] the causes of events and their chains."""

import copy
import unittest

from drawn import drawn_works, lists_within, reckoned
from ownclocks.causes import causes, chain
from ownclocks.clock import run


class Causes(unittest.TestCase):
    def test_what_lay_at_a_door_has_none(self):
        works = ([("sink",), ("sink",)], [], [(0, 5, 1), (0, 3, 2), (1, 0, 0)])
        self.assertEqual(causes(works, 60), [[None, None], [None]])
        self.assertEqual(causes(works, 4), [[None], [None]])
        self.assertEqual(causes(([("sink",)] * 3, [], []), 60), [[], [], []])

    def test_a_relay(self):
        works = ([("relay", 1), ("relay", 2), ("sink",)], [(0, 1, 3), (1, 2, 4)], [(0, 2, 7), (0, 0, 8), (1, 4, 9)])
        # Station 1 takes (3, 0, 9), (4, -1, 9) and (5, 0, 8).
        asked = [[None, None], [(0, 0), None, (0, 1)], [(1, 0), (1, 1), (1, 2)]]
        self.assertEqual(causes(works, 60), asked)
        self.assertEqual(chain(works, 60, 2, 2), [(2, 2), (1, 2), (0, 1)])
        self.assertEqual(chain(works, 60, 2, 1), [(2, 1), (1, 1)])
        self.assertEqual(chain(works, 60, 0, 1), [(0, 1)])

    def test_the_place_is_that_of_the_starts_list(self):
        works = ([("sink",), ("relay", 0)], [(1, 0, 1)], [(1, 4, 1), (1, 4, 2), (1, 0, 3), (0, 5, 4)])
        self.assertEqual(run(works, 60)[0], [(1, 0, 3), (5, -1, 4), (5, 0, 1), (5, 0, 2)])
        self.assertEqual(causes(works, 60), [[(1, 0), None, (1, 1), (1, 2)], [None, None, None]])

    def test_a_joiners_sum_comes_from_the_event_that_made_it_whole(self):
        stations = [("relay", 0), ("joiner",), ("sink",)]
        works = (stations, [(0, 1, 5), (1, 2, 1)], [(1, 0, 1), (1, 2, 10), (0, 1, 100), (1, 6, 3), (0, 3, 5)])
        self.assertEqual(run(works, 60)[1], [(0, -1, 1), (2, -1, 10), (6, -1, 3), (6, 0, 100), (8, 0, 5)])
        self.assertEqual(causes(works, 60), [[None, None], [None, None, None, (0, 0), (0, 1)], [(1, 3), (1, 4)]])
        self.assertEqual(chain(works, 60, 2, 0), [(2, 0), (1, 3), (0, 0)])
        late_door = (stations, [(0, 1, 1), (1, 2, 1)], [(0, 0, 1), (1, 9, 2)])
        self.assertEqual(chain(late_door, 60, 2, 0), [(2, 0), (1, 1)])

    def test_a_thinners_pieces(self):
        works = ([("thinner", 2), ("sink",)], [(0, 1, 1)], [(0, time, time) for time in range(5)])
        self.assertEqual(causes(works, 60)[1], [(0, 0), (0, 2), (0, 4)])

    def test_a_sorters_pieces(self):
        belts = [(0, 1, 2), (0, 2, 1), (0, 1, 1)]
        works = ([("sorter",), ("sink",), ("sink",)], belts, [(0, 0, piece) for piece in (0, 2, 1, 5, 3)])
        self.assertEqual(run(works, 60)[1], [(1, 2, 2), (1, 2, 5), (2, 0, 0), (2, 0, 3)])
        self.assertEqual(causes(works, 60)[1:], [[(0, 1), (0, 3), (0, 0), (0, 4)], [(0, 2)]])

    def test_a_ring_of_belts(self):
        works = ([("relay", 1)] * 3, [(0, 1, 1), (1, 2, 2), (2, 0, 3)], [(1, 4, 0)])
        self.assertEqual(causes(works, 16), [[(2, 0), (2, 1)], [None, (0, 0), (0, 1)], [(1, 0), (1, 1)]])
        asked = [(1, 2), (0, 1), (2, 1), (1, 1), (0, 0), (2, 0), (1, 0)]
        self.assertEqual(chain(works, 16, 1, 2), asked)
        self.assertEqual(chain(works, 60, 1, 2), asked)

    def test_a_belt_to_its_own_start(self):
        works = ([("relay", 1)], [(0, 0, 1)], [(0, 0, 0)])
        self.assertEqual(causes(works, 60), [[None] + [(0, place) for place in range(60)]])
        self.assertEqual(chain(works, 60, 0, 60), [(0, place) for place in range(60, -1, -1)])

    def test_like_events_of_different_causes(self):
        works = ([("relay", 0), ("sink",)], [(0, 1, 1)], [(0, 0, 5), (0, 0, 5), (0, 0, 5)])
        self.assertEqual(causes(works, 60)[1], [(0, 0), (0, 1), (0, 2)])


class Drawn(unittest.TestCase):
    def test_reckoned_a_second_time(self):
        for seed in range(300):
            works = drawn_works(seed)
            for until in (0, 50, 60, seed % 61):
                self.assertEqual(causes(works, until), reckoned(works, until)[1], (seed, until))

    def chain_holds(self, works, events, links):
        for former, latter in zip(links, links[1:]):
            event, cause = events[former[0]][former[1]], events[latter[0]][latter[1]]
            start, goal, delay = works[1][event[1]]
            self.assertEqual((start, goal), (latter[0], former[0]))
            self.assertEqual(event[0], cause[0] + delay)
        for station, place in links[:-1]:
            self.assertNotEqual(events[station][place][1], -1)
        self.assertEqual(events[links[-1][0]][links[-1][1]][1], -1)

    def test_each_chain_leads_back_to_a_door(self):
        lengths = set()
        for seed in range(120):
            works = drawn_works(3000 + seed)
            until = (60, 50, 20)[seed % 3]
            events, told = run(works, until), causes(works, until)
            self.assertEqual([len(row) for row in told], [len(row) for row in events])
            for station, row in enumerate(events):
                # The last few of each station have the longest chains.
                for place in range(max(0, len(row) - 3), len(row)):
                    links = chain(works, until, station, place)
                    self.assertEqual(links[0], (station, place))
                    followed = [told[number][spot] for number, spot in links]
                    self.assertEqual(followed, links[1:] + [None])
                    self.chain_holds(works, events, links)
                    lengths.add(len(links))
        self.assertTrue({1, 2, 3, 10} <= lengths, lengths)

    def test_a_relays_pieces_are_those_that_it_took(self):
        for seed in range(120):
            works = drawn_works(4000 + seed)
            events, told = run(works, 60), causes(works, 60)
            for station, row in enumerate(told):
                for place, cause in enumerate(row):
                    if cause is not None and works[0][cause[0]][0] != "joiner":
                        kind = works[0][cause[0]]
                        more = kind[1] if kind[0] == "relay" else 0
                        self.assertEqual(events[station][place][2], events[cause[0]][cause[1]][2] + more)


class AskersOwn(unittest.TestCase):
    WORKS = ([("relay", 0), ("relay", 0), ("sink",), ("sink",)], [(0, 1, 1), (1, 0, 1)], [(0, 0, 5)])

    def test_nothing_handed_in_is_changed(self):
        works = copy.deepcopy(self.WORKS)
        causes(works, 60)
        chain(works, 60, 1, 3)
        self.assertEqual(works, self.WORKS)

    def test_kinds(self):
        told = causes(self.WORKS, 60)
        self.assertEqual({type(row) for row in told}, {list})
        self.assertEqual({type(cause) for row in told for cause in row}, {tuple, type(None)})
        links = chain(self.WORKS, 60, 1, 3)
        self.assertIs(type(links), list)
        self.assertEqual({type(link) for link in links}, {tuple})
        self.assertEqual({type(number) for link in links for number in link}, {int})

    def test_every_list_is_a_new_one(self):
        tellings = [ask(self.WORKS, 60) for ask in (causes, causes, run)]
        tellings += [chain(self.WORKS, 60, 1, 3), chain(self.WORKS, 60, 1, 3)]
        found = lists_within(tellings) + lists_within(self.WORKS)
        self.assertEqual(len({id(each) for each in found}), len(found))

    def test_told_lists_changed_by_the_asker(self):
        told, links = causes(self.WORKS, 60), chain(self.WORKS, 60, 1, 3)
        kept = copy.deepcopy((told, links))
        for row in told:
            row.insert(0, (7, 7))
        told.clear()
        links.clear()
        self.assertEqual((causes(self.WORKS, 60), chain(self.WORKS, 60, 1, 3)), kept)


if __name__ == "__main__":
    unittest.main()
