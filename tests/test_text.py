"""[4, 6, 7] works, their texts, and the texts that are refused."""

import copy
import random
import re
import unittest

from ownclocks.errors import NoMeasure, NoRow, NoStation, WorksError
from ownclocks.works import read, shown

B = 1000000000

ALL_KINDS = [("relay", 5), ("sorter",), ("thinner", 3), ("joiner",), ("sink",)]
ORDINARY = (
    ALL_KINDS,
    [(0, 1, 1), (1, 2, 9), (1, 3, 4), (3, 3, 2)],
    [(0, 0, 7), (3, 50, -12), (0, 0, 0)],
)
ORDINARY_TEXT = """\
station relay 5
station sorter
station thinner 3
station joiner
station sink
belt 0 1 1
belt 1 2 9
belt 1 3 4
belt 3 3 2
feed 0 0 7
feed 3 50 -12
feed 0 0 0"""


def kind_of_refusal(text):
    try:
        read(text)
    except WorksError as error:
        return type(error)
    return None


class Refusing(unittest.TestCase):
    def refused(self, error, *texts):
        for text in texts:
            with self.subTest(text=text):
                self.assertIs(kind_of_refusal(text), error)


class Shown(unittest.TestCase):
    def back_and_forth(self, works):
        before = copy.deepcopy(works)
        text = shown(works)
        again = read(text)
        self.assertEqual(again, works)
        self.assertEqual(shown(again), text)
        self.assertEqual(works, before)
        self.assertIs(type(again), tuple)
        for part in again:
            self.assertIs(type(part), list)
            for told in part:
                self.assertIs(type(told), tuple)
                for value in told:
                    self.assertIn(type(value), (int, str))

    def test_the_text_as_it_stands(self):
        self.assertEqual(shown(ORDINARY), ORDINARY_TEXT)
        self.assertEqual(read(ORDINARY_TEXT), ORDINARY)
        self.back_and_forth(ORDINARY)

    def test_one_station_of_each_kind_alone(self):
        for station in ALL_KINDS:
            self.back_and_forth(([station], [], []))
        self.assertEqual(shown(([("sink",)], [], [])), "station sink")

    def test_most_of_all(self):
        stations = (ALL_KINDS * 2)[:8]
        belts = [(k % 8, k * 3 % 8, k % 9 + 1) for k in range(12)]
        feeds = [(k % 8, k % 51, k * 1000 - 30000) for k in range(60)]
        self.back_and_forth((stations, belts, feeds))
        self.back_and_forth((stations, belts, []))
        self.back_and_forth((stations, [], feeds))

    def test_the_edges_of_the_numbers(self):
        for number in (0, -1, 1, -B, B):
            self.back_and_forth(([("relay", number)], [], [(0, 0, number)]))
        for every in (2, 9):
            self.back_and_forth(([("thinner", every)], [], []))
        for delay in (1, 9):
            self.back_and_forth(([("sink",), ("sink",)], [(0, 0, delay), (1, 0, delay)], []))
        for time in (0, 50):
            self.back_and_forth(([("sink",)], [], [(0, time, 0)]))

    def test_the_last_of_eight_stations_is_named(self):
        self.back_and_forth(([("sink",)] * 8, [(7, 7, 1)], [(7, 1, 1)]))

    def test_beyond_the_bounds_nothing_is_refused_by_shown(self):
        works = ([("thinner", 10)] * 9, [(0, 0, 10)] * 13, [(0, 51, B + 1)])
        self.assertEqual(len(shown(works).split("\n")), 23)

    def test_what_is_read_is_the_askers_own(self):
        first = read(ORDINARY_TEXT)
        for part in first:
            part.clear()
        second = read(ORDINARY_TEXT)
        self.assertEqual(second, ORDINARY)
        self.assertEqual(len({id(part) for part in first + second}), 6)


class NoRows(Refusing):
    def test_a_text_or_a_row_without_signs(self):
        self.refused(
            NoRow, "", "\n", "\nstation sink", "station sink\n", "station sink\n\nstation sink",
            "station sink\nbelt 0 0 1\n", "station sink\nfeed 0 0 1\n", " ",
        )

    def test_numbers_written_otherwise(self):
        for word in (
            "", "01", "00", "-0", "-01", "+1", "+", "-", "--1", "1-", "1-1", "12345678901", "00000000001",
            "-12345678901", "1.0", "1_0", "0x1", "1e3", "a", "1a", "a1", "1,0", "- 1", "N",
        ):
            self.refused(
                NoRow, f"station relay {word}", f"station thinner {word}",
                f"station sink\nbelt {word} 0 1", f"station sink\nbelt 0 {word} 1", f"station sink\nbelt 0 0 {word}",
                f"station sink\nfeed {word} 0 1", f"station sink\nfeed 0 {word} 1", f"station sink\nfeed 0 0 {word}",
            )

    def test_ten_figures_are_a_number_yet(self):
        self.refused(NoMeasure, "station relay 9999999999", "station relay -9999999999", "station thinner 1234567890")
        self.refused(NoStation, "station sink\nfeed 9999999999 0 0", "station sink\nbelt 0 -9999999999 1")

    def test_words_and_blanks(self):
        rows = ORDINARY_TEXT.split("\n")
        for place, row in enumerate(rows):
            words = row.split(" ")
            for faulty in (
                row + " ", " " + row, row.replace(" ", "  ", 1), row + " 1", row + " x", " ".join(words[:-1]),
                words[0], row.replace(" ", ""), row.upper(), "x" + row, row + "-", row + "\n" + row[:0],
            ):
                self.refused(NoRow, "\n".join(rows[:place] + [faulty] + rows[place + 1:]))

    def test_other_words(self):
        self.refused(
            NoRow, "station", "station source", "station relays 1", "station Relay 1", "Station sink", "stations sink",
            "relay 1", "sink", "belt", "feed", "station belt", "station station sink", "station sorter 2",
            "station joiner 0", "station sink 1", "station sink\ndoor 0 0 1", "station sink\nbelts 0 0 1",
            "station sink\nfeed relay 1", "station sink\nstation feed 0 0 0", "#station sink", "station\tsink",
        )

    def test_rows_out_of_place(self):
        self.refused(
            NoRow, "station sink\nbelt 0 0 1\nstation sink", "station sink\nfeed 0 0 1\nstation sink",
            "station sink\nfeed 0 0 1\nbelt 0 0 1", "station sink\nbelt 0 0 1\nfeed 0 0 1\nbelt 0 0 1",
            "station sink\nbelt 0 0 1\nfeed 0 0 1\nstation sink", "belt 0 0 1", "feed 0 0 1",
            "belt 0 0 1\nstation sink", "feed 0 0 1\nstation sink",
        )

    def test_too_many_rows(self):
        eight = "\n".join(["station sink"] * 8)
        twelve = eight + "\nbelt 0 7 1" * 12
        sixty = eight + "\nfeed 7 0 1" * 60
        for whole, row in ((eight, "station sink"), (twelve, "belt 0 7 1"), (sixty, "feed 7 0 1")):
            self.assertEqual(shown(read(whole)), whole)
            self.refused(NoRow, whole + "\n" + row)
        self.assertEqual(len(read(twelve + "\nfeed 7 0 1" * 60)[2]), 60)
        self.refused(NoRow, twelve + "\nfeed 7 0 1" * 61)


class NoStations(Refusing):
    def test_a_station_that_there_is_not(self):
        self.refused(
            NoStation, "station sink\nbelt 1 0 1", "station sink\nbelt 0 1 1", "station sink\nfeed 1 0 0",
            "station sink\nbelt -1 0 1", "station sink\nbelt 0 -1 1", "station sink\nfeed -1 0 0",
            "station sink\nstation sink\nfeed 2 0 0", "\n".join(["station sink"] * 8) + "\nbelt 7 8 1",
        )


class NoMeasures(Refusing):
    def test_out_of_bounds(self):
        for delay in (0, 10, -1):
            self.refused(NoMeasure, f"station sink\nbelt 0 0 {delay}")
        for time in (-1, 51, 60):
            self.refused(NoMeasure, f"station sink\nfeed 0 {time} 0")
        for piece in (-B - 1, B + 1):
            self.refused(NoMeasure, f"station sink\nfeed 0 0 {piece}", f"station relay {piece}")
        for every in (1, 10, 0, -2):
            self.refused(NoMeasure, f"station thinner {every}")


class TwoFaults(Refusing):
    def test_in_one_row_the_form_comes_first(self):
        self.refused(
            NoRow, "station sink\nbelt 4 0 01", "station sink\nbelt 0 0 10 1", "station sink\nfeed 4 51 +1",
            "station thinner 1 ", "station sink\nbelt 5 5 0 ",
        )

    def test_in_one_row_the_place_comes_ahead_of_station_and_measure(self):
        eight = "\n".join(["station sink"] * 8)
        self.refused(
            NoRow, "belt 5 0 1", "belt 0 0 10", "feed 3 0 0", "feed 0 99 0",
            "station sink\nbelt 0 0 1\nstation thinner 1", "station sink\nfeed 0 0 1\nbelt 5 0 1",
            "station sink\nfeed 0 0 1\nbelt 0 0 10", eight + "\nstation relay 9999999999",
            eight + "\nbelt 0 0 1" * 12 + "\nbelt 8 0 1", eight + "\nbelt 0 0 1" * 12 + "\nbelt 0 0 0",
            eight + "\nfeed 0 0 1" * 60 + "\nfeed 8 0 1", eight + "\nfeed 0 0 1" * 60 + "\nfeed 0 51 1",
        )

    def test_in_one_row_the_station_comes_ahead_of_the_measure(self):
        self.refused(
            NoStation, "station sink\nbelt 1 0 0", "station sink\nbelt 0 1 10", "station sink\nfeed 1 51 0",
            "station sink\nfeed -1 0 9999999999",
        )

    def test_of_two_rows_the_first_one_speaks(self):
        self.refused(NoRow, "station sink \nstation thinner 1", "station sink\nbelt 0 0 x\nfeed 7 0 0")
        self.refused(NoMeasure, "station thinner 1\nstation sink ", "station relay 9999999999\nfeed 7 0 0\n")
        self.refused(
            NoStation, "station sink\nbelt 0 1 1\nstation sink", "station sink\nfeed 1 0 0\nfeed 0 51 0",
            "station sink\nbelt 0 1 1\n",
        )
        self.refused(NoMeasure, "station sink\nfeed 0 51 0\nfeed 1 0 0", "station sink\nbelt 0 0 0\nstation sink")


NUMBER = "(0|-?[1-9][0-9]{0,9})"
FORMS = (
    (0, re.compile(f"station relay {NUMBER}"), "n"), (0, re.compile("station (?:sorter|joiner|sink)"), ""),
    (0, re.compile(f"station thinner {NUMBER}"), "e"), (1, re.compile(f"belt {NUMBER} {NUMBER} {NUMBER}"), "ssd"),
    (2, re.compile(f"feed {NUMBER} {NUMBER} {NUMBER}"), "stn"),
)
BOUNDS = {"n": (-B, B), "e": (2, 9), "d": (1, 9), "t": (0, 50)}


def told_otherwise(text):
    """The refusal that [7] asks for, reckoned by forms alone, or None."""
    counts = [0, 0, 0]
    for row in text.split("\n"):
        found = [(part, form.fullmatch(row), sorts) for part, form, sorts in FORMS if form.fullmatch(row)]
        if not found:
            return NoRow
        part, match, sorts = found[0]
        if any(counts[part + 1:]) or counts[part] == (8, 12, 60)[part] or part and not counts[0]:
            return NoRow
        numbers = [(sort, int(word)) for sort, word in zip(sorts, match.groups())]
        if any(sort == "s" and not 0 <= number < counts[0] for sort, number in numbers):
            return NoStation
        if any(sort != "s" and not BOUNDS[sort][0] <= number <= BOUNDS[sort][1] for sort, number in numbers):
            return NoMeasure
        counts[part] += 1
    return None


class Mutated(unittest.TestCase):
    def spoilt(self, chance, text):
        signs = "0123456789-+ \nabelsr"
        for turn in range(chance.randint(1, 3)):
            place = chance.randrange(len(text) + 1)
            width = chance.randint(0, 1)
            text = text[:place] + chance.choice(["", chance.choice(signs)]) + text[place + width:]
        return text

    def row_wise(self, chance, text):
        rows = text.split("\n")
        one, other = chance.randrange(len(rows)), chance.randrange(len(rows))
        rows[one], rows[other] = rows[other], rows[one]
        return "\n".join(rows)

    def test_texts_spoilt_by_chance(self):
        chance = random.Random(2)
        seen = {None: 0, NoRow: 0, NoStation: 0, NoMeasure: 0}
        for turn in range(20000):
            change = self.spoilt if turn % 4 else self.row_wise
            text = change(chance, ORDINARY_TEXT)
            asked = told_otherwise(text)
            self.assertIs(kind_of_refusal(text), asked, text)
            if asked is None:
                self.assertEqual(shown(read(text)), text)
            seen[asked] += 1
        self.assertTrue(all(count > 50 for count in seen.values()), seen)


if __name__ == "__main__":
    unittest.main()
