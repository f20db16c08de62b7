"""[2, 3, 12, 13, 14, 15] stations at own clocks, step by step."""

import copy
import unittest

from drawn import Model, drawn_turns, drawn_works, lists_within, reckoned, state
from ownclocks.clock import run
from ownclocks.own import Own

BLOCK = ([("relay", 0), ("relay", 0), ("sink",)], [(0, 2, 3), (1, 2, 4)], [(0, 2, 7), (1, 30, 8)])


def stepped(works, *turns):
    own = Own(works)
    return own, [own.step(turn) for turn in turns]


class Beginning(unittest.TestCase):
    WORKS = (
        [("relay", 0), ("sink",), ("joiner",), ("sorter",), ("thinner", 2)],
        [(0, 1, 3), (0, 1, 9), (1, 2, 1), (2, 2, 4), (4, 1, 5)],
        [(0, 5, 7), (0, 2, 8), (1, 6, 1), (4, 50, 2)],
    )

    def test_rows_promises_clocks(self):
        taken, clocks, promises, rows = state(Own(self.WORKS), self.WORKS)
        self.assertEqual(taken, [[]] * 5)
        self.assertEqual(promises, [3, 9, 1, 4, 5])
        self.assertEqual(rows, [[]] * 5)
        self.assertEqual(clocks, [2, 3, 1, None, 50])

    def test_the_clock_of_a_station_with_a_feed_and_a_belt(self):
        for time in (0, 4, 5, 6, 50):
            works = ([("sink",), ("relay", 0)], [(1, 0, 5)], [(0, time, 1), (0, 50, 1)])
            self.assertEqual(Own(works).clock(0), min(time, 5))

    def test_the_clock_of_empty_belts_only(self):
        for delays in ((1,), (9,), (4, 2, 7), (3, 3)):
            works = ([("sink",), ("sink",)], [(1, 0, delay) for delay in delays], [])
            self.assertEqual((Own(works).clock(0), Own(works).clock(1)), (min(delays), None))

    def test_the_clock_0(self):
        self.assertEqual(Own(([("sink",)], [], [(0, 0, 0)])).clock(0), 0)

    def test_without_ways(self):
        own = Own(([("joiner",)], [], []))
        self.assertIsNone(own.clock(0))
        self.assertEqual((own.step(0), own.clock(0), own.taken(0)), ("none", None, []))


class Clocks(unittest.TestCase):
    def test_never_counts_as_later_than_each_time(self):
        works = ([("relay", 0), ("relay", 0), ("sink",)], [(0, 2, 1), (1, 2, 6)], [(1, 40, 5)])
        own, words = stepped(works, 0)
        self.assertEqual((words, own.promise(0), own.promise(1)), (["raised"], None, 6))
        self.assertEqual(own.clock(2), 6)

    def test_an_empty_door_is_never(self):
        own, words = stepped(([("relay", 0), ("sink",)], [(0, 1, 1)], [(0, 0, 5), (1, 3, 6)]), 0, 1)
        self.assertEqual(words, ["took", "took"])
        # The belt is done and empty, the feed yet to come alone holds.
        self.assertEqual((own.promise(0), own.waiting(0), own.clock(1)), (None, [], 3))
        self.assertEqual([own.step(1), own.clock(1), own.clock(0)], ["took", None, None])

    def test_belts_that_never_bring_more(self):
        own = Own(([("sink",), ("sink",)], [(0, 1, 2), (0, 1, 3)], []))
        self.assertEqual([own.clock(1), own.step(0), own.clock(1)], [2, "raised", None])

    def test_what_lies_counts_ahead_of_the_promise(self):
        own, words = stepped(([("relay", 0), ("sink",)], [(0, 1, 4)], [(0, 3, 5), (0, 20, 6)]), 0)
        self.assertEqual((own.waiting(0), own.promise(0), own.clock(1)), ([(7, 0, 5)], 24, 7))
        self.assertEqual([own.step(1), own.clock(1)], ["took", 24])


class MayTake(unittest.TestCase):
    def sink_beside_an_empty_belt(self, delay, lies_on_belt_0):
        """An event of time 5 at station 2, and another belt to it, empty, whose promise is its delay."""
        belts = [(0, 2, 3), (1, 2, delay)]
        works = (BLOCK[0], belts if lies_on_belt_0 else belts[::-1], BLOCK[2])
        own, words = stepped(works, 0)
        lying, other = (0, 1) if lies_on_belt_0 else (1, 0)
        self.assertEqual((own.waiting(lying), own.waiting(other)), ([(5, lying, 7)], []))
        self.assertEqual((own.promise(lying), own.promise(other)), (None, delay))
        return own

    def test_the_promise_is_earlier(self):
        for delay in (1, 4):
            for lies_on_belt_0 in (True, False):
                own = self.sink_beside_an_empty_belt(delay, lies_on_belt_0)
                self.assertEqual([own.step(2), own.taken(2)], ["none", []])

    def test_the_promise_is_later(self):
        for delay in (6, 9):
            for lies_on_belt_0 in (True, False):
                own = self.sink_beside_an_empty_belt(delay, lies_on_belt_0)
                self.assertEqual([own.step(2), len(own.taken(2))], ["took", 1])

    def test_the_promise_is_just_the_events_time(self):
        above = self.sink_beside_an_empty_belt(5, True)
        self.assertEqual([above.step(2), above.taken(2), above.waiting(0)], ["took", [(5, 0, 7)], []])
        below = self.sink_beside_an_empty_belt(5, False)
        self.assertEqual([below.step(2), below.taken(2), below.waiting(1)], ["none", [], [(5, 1, 7)]])

    def test_the_promise_is_never(self):
        for belts in ([(0, 2, 3), (1, 2, 1)], [(1, 2, 1), (0, 2, 3)]):
            own, words = stepped((BLOCK[0], belts, BLOCK[2][:1]), 0, 2, 1, 2)
            self.assertEqual(words, ["took", "none", "raised", "took"])

    def test_each_empty_belt_counts(self):
        stations = [("relay", 0), ("sink",), ("sink",)]
        for delays, word in (((6, 7, 9), "took"), ((6, 7, 4), "none"), ((4, 7, 6), "none"), ((6, 4, 6), "none")):
            belts = [(0, 2, 3)] + [(1, 2, delay) for delay in delays]
            own, words = stepped((stations, belts, [(0, 2, 7)]), 0, 2)
            self.assertEqual(words, ["took", word], delays)

    def test_at_the_door(self):
        for delay, word in ((4, "none"), (5, "took"), (6, "took")):
            own, words = stepped(([("sink",), ("sink",)], [(1, 0, delay)], [(0, 5, 7)]), 0)
            self.assertEqual(words, [word], delay)

    def test_a_belt_on_which_something_lies_does_not_hold_up(self):
        # Both feeds are of one time, so that behind the first the belt's promise is just its piece's time.
        works = ([("relay", 0), ("sink",)], [(0, 1, 4)], [(0, 0, 1), (0, 0, 2)])
        own, words = stepped(works, 0)
        self.assertEqual((own.promise(0), own.waiting(0)), (4, [(4, 0, 1)]))
        self.assertEqual(own.step(1), "took")

    def test_a_belt_elsewhere_does_not_hold_up(self):
        works = ([("sink",), ("sink",), ("sink",)], [(1, 2, 1), (0, 1, 1)], [(0, 30, 7)])
        self.assertEqual(stepped(works, 0)[1], ["took"])

    def test_without_any_event(self):
        self.assertEqual(stepped(([("sink",), ("sink",)], [(1, 0, 1)], []), 0)[1], ["none"])


class NextEvent(unittest.TestCase):
    def test_the_least_time_whatever_the_way(self):
        works = ([("relay", 0), ("sink",), ("relay", 0)], [(0, 1, 9), (2, 1, 3)], [(0, 0, 1), (2, 0, 2), (1, 50, 3)])
        own, words = stepped(works, 0, 2, 1, 1, 1, 1)
        self.assertEqual(words, ["took"] * 5 + ["none"])
        self.assertEqual(own.taken(1), [(3, 1, 2), (9, 0, 1), (50, -1, 3)])

    def test_of_like_times_the_least_way(self):
        belts = [(2, 1, 5), (0, 1, 5)]
        works = ([("relay", 0), ("sink",), ("relay", 0)], belts, [(0, 0, 1), (2, 0, 2), (1, 5, 3)])
        own, words = stepped(works, 0, 2, 1, 1, 1)
        self.assertEqual(own.taken(1), [(5, -1, 3), (5, 0, 2), (5, 1, 1)])

    def test_at_the_door_by_time_and_then_as_they_stand(self):
        works = ([("sink",)], [], [(0, 9, 1), (0, 0, 2), (0, 9, 0), (0, 9, 5)])
        own, words = stepped(works, 0, 0, 0, 0)
        self.assertEqual(own.taken(0), [(0, -1, 2), (9, -1, 1), (9, -1, 0), (9, -1, 5)])


class Steps(unittest.TestCase):
    def test_a_step_takes_one(self):
        works = ([("relay", 10), ("sink",)], [(0, 1, 2)], [(0, 4, 1), (0, 4, 2), (0, 6, 3)])
        own = Own(works)
        self.assertEqual(own.step(0), "took")
        self.assertEqual((own.taken(0), own.waiting(0)), ([(4, -1, 1)], [(6, 0, 11)]))
        self.assertEqual((own.clock(0), own.promise(0)), (4, 6))
        self.assertEqual(own.step(0), "took")
        self.assertEqual((own.waiting(0), own.promise(0)), ([(6, 0, 11), (6, 0, 12)], 8))
        self.assertEqual(own.step(1), "took")
        self.assertEqual((own.taken(1), own.waiting(0)), ([(6, 0, 11)], [(6, 0, 12)]))
        self.assertEqual([own.step(0), own.step(0)], ["took", "none"])
        self.assertEqual((own.waiting(0), own.promise(0)), ([(6, 0, 12), (8, 0, 13)], None))
        self.assertEqual([own.step(1), own.step(1), own.step(1)], ["took", "took", "none"])
        self.assertEqual(own.taken(1), [(6, 0, 11), (6, 0, 12), (8, 0, 13)])

    def test_all_leaving_belts_are_raised_to_the_clock_as_it_is_then(self):
        works = ([("sorter",), ("sink",)], [(0, 1, 1), (0, 1, 9), (0, 1, 4)], [(0, 2, 1), (0, 7, 0)])
        own, words = stepped(works, 0)
        self.assertEqual([own.promise(belt) for belt in range(3)], [8, 16, 11])
        self.assertEqual([own.waiting(belt) for belt in range(3)], [[], [(11, 1, 1)], []])
        self.assertEqual([own.step(0), own.promise(0), own.promise(1), own.promise(2)], ["took", None, None, None])

    def test_raised_then_none(self):
        works = ([("relay", 0), ("relay", 0), ("sink",)], [(0, 1, 3), (1, 2, 2)], [(0, 5, 1), (0, 9, 1)])
        own, words = stepped(works, 1, 1)
        self.assertEqual((words, own.promise(1)), (["raised", "none"], 5))
        self.assertEqual([own.step(0), own.promise(0), own.step(1), own.promise(1)], ["took", 12, "took", 14])
        self.assertEqual([own.step(1), own.promise(1)], ["none", 14])

    def test_raised_again_as_soon_as_the_clock_has_gone_on(self):
        works = ([("sink",), ("relay", 0)], [(0, 0, 9), (1, 0, 1), (0, 1, 2)], [])
        own, words = stepped(works, 0, 0)
        self.assertEqual(words, ["raised", "none"])
        self.assertEqual([own.promise(belt) for belt in range(3)], [10, 1, 3])
        self.assertEqual([own.step(1), own.promise(1), own.step(0)], ["raised", 4, "raised"])
        self.assertEqual([own.promise(belt) for belt in range(3)], [13, 4, 6])

    def test_raised_to_never(self):
        own, words = stepped(([("relay", 0), ("sink",)], [(0, 1, 3)], []), 0, 0)
        self.assertEqual((words, own.promise(0), own.clock(1)), (["raised", "none"], None, None))

    def test_never_is_handed_on(self):
        works = ([("relay", 0)] * 3, [(0, 1, 3), (1, 2, 2)], [])
        own, words = stepped(works, 1, 0, 1, 1)
        self.assertEqual((words, own.promise(1)), (["raised", "raised", "raised", "none"], None))

    def test_took_is_told_where_promises_are_raised_too_or_none_is(self):
        own, words = stepped(([("relay", 0), ("sink",)], [(0, 1, 3)], [(0, 0, 1), (0, 0, 2)]), 0)
        self.assertEqual((words, own.promise(0)), (["took"], 3))
        self.assertEqual([own.step(0), own.promise(0)], ["took", None])

    def test_what_is_put_nowhere(self):
        works = ([("thinner", 2), ("sink",)], [(0, 1, 1), (1, 0, 9)], [(0, 0, 1), (0, 1, 2), (0, 2, 3)])
        own, words = stepped(works, 0, 0, 0, 1, 1)
        self.assertEqual(words, ["took"] * 5)
        self.assertEqual(own.taken(1), [(1, 0, 1), (3, 0, 3)])
        self.assertEqual(own.waiting(1), [])

    def test_a_joiner(self):
        works = ([("relay", 0), ("joiner",), ("sink",)], [(0, 1, 1), (1, 2, 2)], [(0, 4, 1), (1, 0, 10), (1, 1, 20)])
        own, words = stepped(works, 1, 1, 1, 0, 1, 2)
        self.assertEqual(words, ["took", "took", "none", "took", "took", "took"])
        self.assertEqual(own.taken(2), [(7, 1, 11)])


class OwnStart(unittest.TestCase):
    def test_the_clock_is_reckoned_once_ahead_of_the_raisings(self):
        for belts, back, on in (([(0, 0, 2), (0, 1, 1)], 0, 1), ([(0, 1, 1), (0, 0, 2)], 1, 0)):
            own = Own(([("relay", 0), ("sink",)], belts, [(0, 5, 7)]))
            self.assertEqual(own.clock(0), 2)
            self.assertEqual([own.step(0), own.promise(back), own.promise(on)], ["raised", 4, 3])
            self.assertEqual([own.step(0), own.promise(back), own.promise(on)], ["raised", 6, 5])
            self.assertEqual([own.step(0), own.taken(0)], ["took", [(5, -1, 7)]])

    def test_what_is_laid_there_holds_the_clock(self):
        own, words = stepped(([("relay", 1), ("sink",)], [(0, 0, 2), (0, 1, 1)], [(0, 5, 7)]), 0, 0, 0)
        self.assertEqual((own.waiting(0), own.clock(0)), ([(7, 0, 8)], 7))
        self.assertEqual((own.promise(0), own.promise(1)), (9, 8))
        self.assertEqual([own.step(0), own.waiting(0), own.promise(0)], ["took", [(9, 0, 9)], 11])

    def test_two_back_to_the_start(self):
        own = Own(([("sorter",)], [(0, 0, 3), (0, 0, 5)], []))
        for clock in (3, 6, 9, 12):
            self.assertEqual(own.clock(0), clock)
            self.assertEqual(own.step(0), "raised")
            self.assertEqual([own.promise(0), own.promise(1)], [clock + 3, clock + 5])

    def test_its_own_empty_belt_holds_up_too(self):
        works = ([("relay", 0), ("relay", 0)], [(1, 1, 1), (0, 1, 1)], [(0, 1, 7)])
        own, words = stepped(works, 0, 1)
        # The event (2, 1, 7): the promise 1 of belt 0 is earlier, then 2 is just its time and belt 0 below belt 1.
        self.assertEqual((words, own.promise(0)), (["took", "raised"], 2))
        self.assertEqual([own.step(1), own.promise(0), own.taken(1)], ["raised", 3, []])
        self.assertEqual([own.step(1), own.taken(1), own.waiting(0)], ["took", [(2, 1, 7)], [(3, 0, 7)]])


class Drawn(unittest.TestCase):
    def test_reckoned_a_second_time(self):
        seen = {"took": 0, "raised": 0, "none": 0}
        for seed in range(250):
            works = drawn_works(seed)
            own, model = Own(works), Model(works)
            for turn in drawn_turns(works, seed, 120):
                word = own.step(turn)
                self.assertEqual(word, model.step(turn), seed)
                self.assertEqual(state(own, works), model.state(), seed)
                seen[word] += 1
        self.assertTrue(all(count > 2000 for count in seen.values()), seen)

    def test_what_is_taken_is_a_beginning_of_what_the_one_clock_takes(self):
        far = 0
        for seed in range(200):
            works = drawn_works(5000 + seed)
            own = Own(works)
            for turn in drawn_turns(works, seed, 400):
                own.step(turn)
            taken = [own.taken(station) for station in range(len(works[0]))]
            last = max([60] + [events[-1][0] for events in taken if events])
            asked = reckoned(works, last)[0]
            by_clock = run(works, 60)
            for station, events in enumerate(taken):
                self.assertEqual(events, asked[station][:len(events)], seed)
                early = [event for event in events if event[0] <= 60]
                self.assertEqual(early, by_clock[station][:len(early)], seed)
                far += len(early) > 5
        self.assertGreater(far, 100)

    def laid(self, before, after, belt, taker):
        """What a step laid on a belt: all that stands behind what lay there and was not taken."""
        old, new = before[3][belt], after[3][belt]
        gone = old[:1] if taker and new[:len(old)] != old else []
        self.assertEqual(new[:len(old) - len(gone)], old[len(gone):])
        return new[len(old) - len(gone):]

    def no_promise_broken(self, works, before, after, turn, word):
        for belt, (start, goal, delay) in enumerate(works[1]):
            old, new = before[2][belt], after[2][belt]
            if start != turn or old is None:
                self.assertEqual(old, new)
            else:
                self.assertTrue(new is None or new >= old)
            laid = self.laid(before, after, belt, goal == turn and word == "took")
            self.assertLessEqual(len(laid), 1 if start == turn and word == "took" else 0)
            for event in laid:
                self.assertIsNotNone(old)
                self.assertGreaterEqual(event[0], old)
                self.assertEqual(event[1], belt)

    def no_clock_falls(self, before, after):
        for old, new in zip(before[1], after[1]):
            self.assertTrue(new is None or old is not None and new >= old)

    def test_no_promise_is_broken_and_no_clock_falls(self):
        for seed in range(200):
            works = drawn_works(6000 + seed)
            own = Own(works)
            before = state(own, works)
            for turn in drawn_turns(works, seed, 120):
                word = own.step(turn)
                after = state(own, works)
                self.no_promise_broken(works, before, after, turn, word)
                self.no_clock_falls(before, after)
                self.assertEqual(sum(map(len, after[0])) - sum(map(len, before[0])), int(word == "took"))
                self.assertEqual(word == "none", before == after)
                before = after


class AskersOwn(unittest.TestCase):
    def test_nothing_handed_in_is_changed(self):
        for seed in range(20):
            works = drawn_works(seed)
            before = copy.deepcopy(works)
            own = Own(works)
            for turn in drawn_turns(works, seed, 100):
                own.step(turn)
            self.assertEqual(works, before)

    def test_the_works_changed_behind(self):
        for seed in range(60):
            works = drawn_works(seed)
            whole, changed = Own(copy.deepcopy(works)), copy.deepcopy(works)
            own = Own(changed)
            turns = drawn_turns(works, seed, 100)
            for number, turn in enumerate(turns):
                if number in (0, 30):
                    for part in changed:
                        part.reverse()
                        part.append((0, 0, 1))
                if number == 60:
                    for part in changed:
                        part.clear()
                self.assertEqual(own.step(turn), whole.step(turn))
                self.assertEqual(state(own, works), state(whole, works))

    def test_two_objects_side_by_side(self):
        works = drawn_works(5)
        still, moved = Own(works), Own(works)
        before = state(still, works)
        for turn in drawn_turns(works, 1, 200):
            moved.step(turn)
        self.assertEqual(state(still, works), before)
        self.assertNotEqual(state(moved, works), before)
        self.assertEqual(state(Own(works), works), before)
        after = state(moved, works)
        for turn in drawn_turns(works, 1, 200):
            still.step(turn)
        self.assertEqual((state(still, works), state(moved, works)), (after, after))

    def test_every_list_is_a_new_one(self):
        own, words = stepped(BLOCK, 0)
        found = lists_within([state(own, BLOCK), state(own, BLOCK), state(Own(BLOCK), BLOCK), BLOCK])
        self.assertEqual(len({id(each) for each in found}), len(found))

    def test_told_lists_changed_by_the_asker(self):
        for seed in range(40):
            works = drawn_works(seed)
            own, whole = Own(works), Own(works)
            for turn in drawn_turns(works, seed, 60):
                self.assertEqual(own.step(turn), whole.step(turn))
                for told in state(own, works)[0] + state(own, works)[3]:
                    told.insert(0, (0, -1, 99))
                    told.reverse()
                self.assertEqual(state(own, works), state(whole, works))

    def test_kinds(self):
        own, words = stepped(BLOCK, 0)
        self.assertEqual((type(own.taken(0)), type(own.waiting(0)), type(words[0])), (list, list, str))
        self.assertEqual((type(own.taken(0)[0]), type(own.waiting(0)[0])), (tuple, tuple))
        self.assertEqual((type(own.clock(1)), type(own.promise(1))), (int, int))


if __name__ == "__main__":
    unittest.main()
