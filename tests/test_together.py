"""[2, 3, 6, 10, 16] all stations together: woven, behind, settled; and the promise over the whole."""

import copy
import unittest

from drawn import Model, drawn_turns, drawn_works, lists_within, reckoned, state, upto
from ownclocks.causes import causes, chain
from ownclocks.clock import run
from ownclocks.own import Own
from ownclocks.together import behind, settled, woven
from ownclocks.works import read, shown

FORTH = ([("relay", 5), ("sink",)], [(0, 1, 3)], [(0, 2, 7)])
BACK = ([("sink",), ("relay", 5)], [(1, 0, 3)], [(1, 2, 7)])
RING = ([("relay", 0)] * 2, [(0, 1, 1), (1, 0, 1)], [])


def rounds_by_hand(works, until, own):
    """How many rounds of all stations, the least number first, leave none behind, by an Own or a Model."""
    rounds = 0
    while any(clock is not None and clock <= until for clock in clocks(works, own)):
        for station in range(len(works[0])):
            own.step(station)
        rounds += 1
        if rounds > 10000:
            raise AssertionError("the rounds come to no end")
    return rounds


def clocks(works, own):
    return own.state()[1] if isinstance(own, Model) else [own.clock(station) for station in range(len(works[0]))]


class Woven(unittest.TestCase):
    def test_no_turns(self):
        own = woven(FORTH, [])
        self.assertIs(type(own), Own)
        self.assertEqual(state(own, FORTH), ([[], []], [2, 3], [3], [[]]))

    def test_turns_are_done_one_by_one_in_their_order(self):
        self.assertEqual(woven(FORTH, [1, 0]).taken(1), [])
        self.assertEqual(woven(FORTH, [0, 1]).taken(1), [(5, 0, 12)])
        self.assertEqual(state(woven(FORTH, [1, 1, 0]), FORTH), ([[(2, -1, 7)], []], [None, 5], [None], [[(5, 0, 12)]]))

    def test_like_step_by_step(self):
        for seed in range(60):
            works = drawn_works(seed)
            turns = drawn_turns(works, seed, 300)
            own = Own(works)
            for turn in turns:
                own.step(turn)
            self.assertEqual(state(woven(works, turns), works), state(own, works))

    def test_many_turns(self):
        own = woven(([("relay", 1)], [(0, 0, 9)], [(0, 0, 0)]), [0] * 100000)
        taken = own.taken(0)
        self.assertEqual((len(taken), taken[-1]), (100000, (899991, 0, 99999)))
        unfair = woven(FORTH, [1] * 99998 + [0, 1])
        self.assertEqual([unfair.taken(0), unfair.taken(1)], run(FORTH, 60))

    def test_it_goes_on_from_there(self):
        own = woven(BACK, [0, 1])
        self.assertEqual([own.step(0), own.taken(0)], ["took", [(5, 0, 12)]])

    def test_turns_and_works_are_neither_changed_nor_kept(self):
        turns, works = [0, 1, 0], copy.deepcopy(FORTH)
        own = woven(works, turns)
        self.assertEqual((turns, works), ([0, 1, 0], FORTH))
        turns.append(0)
        for part in works:
            part.clear()
        self.assertEqual(state(own, FORTH), state(woven(FORTH, [0, 1, 0]), FORTH))
        self.assertIsNot(woven(FORTH, []), woven(FORTH, []))


class Behind(unittest.TestCase):
    def test_in_the_beginning(self):
        own = Own(FORTH)
        for until, asked in ((0, []), (1, []), (2, [0]), (3, [0, 1]), (60, [0, 1])):
            self.assertEqual(behind(own, FORTH, until), asked)

    def test_amid(self):
        own = woven(FORTH, [0])
        for until, asked in ((0, []), (4, []), (5, [1]), (60, [1])):
            self.assertEqual(behind(own, FORTH, until), asked)

    def test_when_all_is_done(self):
        own = woven(FORTH, [0, 1])
        for until in (0, 2, 5, 60):
            self.assertEqual(behind(own, FORTH, until), [])

    def test_stations_whose_clock_is_none_or_0(self):
        works = ([("sink",), ("sink",), ("sink",)], [], [(2, 0, 1), (0, 0, 1)])
        self.assertEqual(behind(Own(works), works, 0), [0, 2])

    def test_a_ring_without_feeds_is_behind_at_first(self):
        self.assertEqual(behind(Own(RING), RING, 0), [])
        self.assertEqual(behind(Own(RING), RING, 1), [0, 1])
        self.assertEqual(behind(woven(RING, [0]), RING, 1), [0])

    def test_asking_changes_nothing(self):
        works = drawn_works(5)
        own = woven(works, drawn_turns(works, 5, 40))
        before, kept = state(own, works), copy.deepcopy(works)
        first = behind(own, works, 60)
        first.append(99)
        self.assertEqual(behind(own, works, 60), first[:-1])
        self.assertEqual((state(own, works), works), (before, kept))

    def test_drawn(self):
        for seed in range(60):
            works = drawn_works(seed)
            own = woven(works, drawn_turns(works, seed, 60))
            for until in (0, 5, 30, 60):
                told = behind(own, works, until)
                asked = [k for k, now in enumerate(clocks(works, own)) if now is not None and now <= until]
                self.assertIs(type(told), list)
                self.assertEqual(told, asked)


class Settled(unittest.TestCase):
    def test_no_round_where_none_is_behind(self):
        self.assertEqual(settled(FORTH, 1), ([[], []], 0))
        self.assertEqual(settled(FORTH, 0), ([[], []], 0))
        self.assertEqual(settled(RING, 0), ([[], []], 0))
        for until in (0, 60):
            self.assertEqual(settled(([("joiner",)], [], []), until), ([[]], 0))

    def test_as_many_rounds_as_were_needed(self):
        taken, brought = [(2, -1, 7)], [(5, 0, 12)]
        self.assertEqual(settled(FORTH, 2), ([taken, []], 1))
        self.assertEqual(settled(FORTH, 60), ([taken, brought], 1))
        self.assertEqual(settled(BACK, 2), ([[], taken], 1))
        self.assertEqual(settled(BACK, 4), ([[], taken], 1))
        self.assertEqual(settled(BACK, 5), ([brought, taken], 2))
        self.assertEqual(settled(BACK, 60), ([brought, taken], 2))

    def test_the_moment_0(self):
        works = ([("sink",), ("relay", 0)], [(1, 0, 1)], [(0, 0, 1), (0, 0, 2), (1, 1, 3)])
        self.assertEqual(settled(works, 0), ([[(0, -1, 1), (0, -1, 2)], []], 2))

    def test_a_ring_without_feeds(self):
        # Behind r rounds the clocks are 2 * r + 1 and 2 * r.
        for until, rounds in ((0, 0), (1, 1), (2, 2), (3, 2), (4, 3), (59, 30), (60, 31)):
            self.assertEqual(settled(RING, until), ([[], []], rounds))

    def test_a_belt_to_its_own_start(self):
        self.assertEqual(settled(([("relay", 0)], [(0, 0, 9)], []), 60), ([[]], 6))
        lists, rounds = settled(([("relay", 1)], [(0, 0, 1)], [(0, 0, 0)]), 60)
        self.assertEqual((lists, rounds), ([[(0, -1, 0)] + [(k, 0, k) for k in range(1, 61)]], 61))

    def test_what_was_taken_beyond_the_moment_is_not_told(self):
        feeds = [(0, 1, 1), (0, 2, 2), (0, 3, 3), (1, 0, 4), (1, 40, 5), (1, 50, 6)]
        works = ([("sink",), ("sink",)], [], feeds)
        asked = [[(1, -1, 1), (2, -1, 2), (3, -1, 3)], [(0, -1, 4)]]
        self.assertEqual(settled(works, 3), (asked, 3))

    def test_sixty_feeds_at_one_door(self):
        works = ([("sink",)], [], [(0, 50, piece) for piece in range(60)])
        self.assertEqual(settled(works, 49), ([[]], 0))
        self.assertEqual(settled(works, 50), ([[(50, -1, piece) for piece in range(60)]], 60))

    def test_drawn_just_what_run_tells(self):
        for seed in range(200):
            works = drawn_works(seed)
            for until in (0, 60, seed % 61):
                lists, rounds = settled(works, until)
                self.assertEqual(lists, run(works, until), (seed, until))
                self.assertEqual(rounds, rounds_by_hand(works, until, Own(works)), (seed, until))
                self.assertEqual(rounds, rounds_by_hand(works, until, Model(works)), (seed, until))

    def test_a_tuple_of_new_lists(self):
        works = ([("sink",)] * 4, [(0, 1, 1)], [(0, 0, 5)])
        kept = copy.deepcopy(works)
        first, second = settled(works, 60), settled(works, 60)
        self.assertEqual((type(first), type(first[0]), type(first[1])), (tuple, list, int))
        found = lists_within(first) + lists_within(second) + lists_within(works)
        self.assertEqual(len({id(each) for each in found}), len(found))
        for events in first[0]:
            events.append((9, 9, 9))
        first[0].clear()
        self.assertEqual(settled(works, 60), second)
        self.assertEqual(works, kept)


class Whole(unittest.TestCase):
    def test_where_some_are_behind_some_step_does_something(self):
        tried = 0
        for seed in range(80):
            works = drawn_works(7000 + seed)
            own = Own(works)
            for turn in drawn_turns(works, seed, 60):
                own.step(turn)
                if behind(own, works, 60):
                    words = [copy.deepcopy(own).step(station) for station in range(len(works[0]))]
                    self.assertTrue(any(word != "none" for word in words), seed)
                    tried += 1
        self.assertGreater(tried, 1000)

    def test_from_any_row_of_steps_rounds_take_all(self):
        for seed in range(80):
            works = drawn_works(8000 + seed)
            own = woven(works, drawn_turns(works, seed, seed * 5))
            for until in (0, 20, 50, 60):
                rounds_by_hand(works, until, own)
                self.assertEqual(behind(own, works, until), [])
                taken = [own.taken(station) for station in range(len(works[0]))]
                self.assertEqual(upto(taken, until), run(works, until), seed)

    def test_however_unfair_a_beginning_of_what_the_one_clock_takes(self):
        for seed in range(80):
            works = drawn_works(9000 + seed)
            count = len(works[0])
            asked = run(works, 60)
            for turns in ([seed % count] * 200, [k // 40 % count for k in range(400)], list(range(count))[::-1] * 40):
                own = woven(works, turns)
                for station in range(count):
                    early = upto([own.taken(station)], 60)[0]
                    self.assertEqual(early, asked[station][:len(early)], seed)

    def test_each_taken_piece_has_its_chain(self):
        for seed in range(40):
            works = drawn_works(10000 + seed)
            own = woven(works, drawn_turns(works, seed, 150))
            told = causes(works, 60)
            for station in range(len(works[0])):
                taken = upto([own.taken(station)], 60)[0]
                self.assertLessEqual(len(taken), len(told[station]))
                if taken:
                    links = chain(works, 60, station, len(taken) - 1)
                    # What brought a taken piece was itself taken ahead of it, back to a feed.
                    events = [own.taken(number)[place] for number, place in links]
                    self.assertEqual((events[0], events[-1][1]), (taken[-1], -1))
                    self.assertIn((links[-1][0], events[-1][0], events[-1][2]), works[2])


class FromText(unittest.TestCase):
    TEXT = """\
station relay 1
station sorter
station thinner 2
station joiner
station sink
belt 0 1 2
belt 1 2 1
belt 1 3 1
belt 2 3 3
belt 3 4 9
feed 0 0 1
feed 0 0 4
feed 0 1 2
feed 0 4 3
feed 0 5 10"""
    LISTS = [
        [(0, -1, 1), (0, -1, 4), (1, -1, 2), (4, -1, 3), (5, -1, 10)],
        [(2, 0, 2), (2, 0, 5), (3, 0, 3), (6, 0, 4), (7, 0, 11)],
        [(3, 1, 2), (7, 1, 4)],
        [(3, 2, 5), (4, 2, 3), (6, 3, 2), (8, 2, 11)],
        [(15, 4, 7)],
    ]

    def test_read_run_settled_and_shown_again(self):
        works = read(self.TEXT)
        self.assertEqual(run(works, 60), self.LISTS)
        self.assertEqual(settled(works, 60)[0], self.LISTS)
        self.assertEqual(settled(works, 6)[0], upto(self.LISTS, 6))
        self.assertEqual(chain(works, 60, 4, 0), [(4, 0), (3, 2), (2, 0), (1, 0), (0, 0)])
        self.assertEqual(shown(works), self.TEXT)

    def test_drawn(self):
        for seed in range(60):
            works = drawn_works(11000 + seed)
            again = read(shown(works))
            lists = run(again, 60)
            self.assertEqual(lists, reckoned(works, 60)[0])
            self.assertEqual(settled(again, 60)[0], lists)
            self.assertEqual(shown(again), shown(works))


if __name__ == "__main__":
    unittest.main()
