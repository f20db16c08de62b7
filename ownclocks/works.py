"""A works, a tuple (stations, belts, feeds) of lists, and the text that tells it."""

from ownclocks.errors import NoMeasure, NoRow, NoStation

DOOR = -1

# The parts of a works in the order of its tuple, and how many rows each may have in a text.
PARTS = ("station", "belt", "feed")
MOST_ROWS = (8, 12, 60)

# Of each form of a row: how many of its numbers name stations, then the bounds of its other numbers.
FORMS = {
    "station relay": (0, ((-1000000000, 1000000000),)),
    "station sorter": (0, ()),
    "station thinner": (0, ((2, 9),)),
    "station joiner": (0, ()),
    "station sink": (0, ()),
    "belt": (2, ((1, 9),)),
    "feed": (1, ((0, 50), (-1000000000, 1000000000))),
}

FIGURES = "0123456789"
MOST_FIGURES = 10


def number_of(word):
    figures = word[1:] if word.startswith("-") else word
    # int reads more than figures (a +, blanks, _), so what it is given is looked at first.
    if not 1 <= len(figures) <= MOST_FIGURES or not all([sign in FIGURES for sign in figures]):
        raise NoRow(f"not a number: {word!r}")
    value = int(word)
    # A nought ahead and -0 are numbers to int, but not as they are shown.
    if str(value) != word:
        raise NoRow(f"not a number: {word!r}")
    return value


def check_place(works, part):
    if any([len(later) > 0 for later in works[part + 1:]]):
        raise NoRow("a row stands behind one of a later part")
    if len(works[part]) >= MOST_ROWS[part]:
        raise NoRow("too many rows of one part")
    if part > 0 and len(works[0]) == 0:
        raise NoRow("no station is ahead of the row")


def check_stations(works, stations):
    for station in stations:
        if not 0 <= station < len(works[0]):
            raise NoStation(f"there is no station {station}")


def check_measures(measures, bounds):
    for measure, bound in zip(measures, bounds):
        if not bound[0] <= measure <= bound[1]:
            raise NoMeasure(f"out of bounds: {measure}")


def read_row(works, row):
    words = row.split(" ")
    head = 2 if words[0] == "station" else 1
    form = FORMS.get(" ".join(words[:head]))
    if form is None or len(words) != head + form[0] + len(form[1]):
        raise NoRow(f"not a row: {row!r}")
    numbers = [number_of(word) for word in words[head:]]
    part = PARTS.index(words[0])
    check_place(works, part)
    check_stations(works, numbers[:form[0]])
    check_measures(numbers[form[0]:], form[1])
    works[part].append(tuple(words[1:head] + numbers))


def read(text):
    works = ([], [], [])
    for row in text.split("\n"):
        read_row(works, row)
    return works


def shown(works):
    rows = []
    for name, part in zip(PARTS, works):
        for told in part:
            rows.append(" ".join([name] + [str(value) for value in told]))
    return "\n".join(rows)


def ways(works, station):
    belts = [number for number, belt in enumerate(works[1]) if belt[1] == station]
    fed = any([feed[0] == station for feed in works[2]])
    return [DOOR] + belts if fed else belts


def door(works, station):
    feeds = [feed for feed in works[2] if feed[0] == station]
    # sorted leaves feeds of one time as they stand in the list.
    return [(feed[1], feed[2]) for feed in sorted(feeds, key=lambda feed: feed[1])]


def door_events(works, station):
    return [(fed[0], DOOR, fed[1]) for fed in door(works, station)]


def leaving(works, station):
    return [number for number, belt in enumerate(works[1]) if belt[0] == station]


# Where stations are made "ways" is an argument's name, so that file can't import the def of this name.
def sides(works, station):
    return (ways(works, station), leaving(works, station))
