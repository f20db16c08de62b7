"""What the tests share: works drawn by a rule, and the document's points reckoned a second time, in another way."""

import random

NEVER = float("inf")
KINDS = ("relay", "sorter", "thinner", "joiner", "sink")


def drawn_station(chance):
    kind = chance.choices(KINDS, (5, 4, 3, 3, 1))[0]
    if kind == "relay":
        return (kind, chance.choice((0, 1, -1, 3, 1000000000, -1000000000)))
    if kind == "thinner":
        return (kind, chance.randint(2, 9))
    return (kind,)


def drawn_works(seed):
    """A works like [4] tells, small or large, with few or many like times."""
    chance = random.Random(seed)
    count = chance.choice((1, 2, 2, 3, 3, 4, 5, 8))
    latest = chance.choice((0, 3, 10, 50))
    longest = chance.choice((1, 2, 4, 9))
    stations = [drawn_station(chance) for turn in range(count)]
    belts = []
    for turn in range(chance.choice((0, 1, 2, 4, 6, 8, 12))):
        belts.append((chance.randrange(count), chance.randrange(count), chance.randint(1, longest)))
    feeds = []
    for turn in range(chance.choice((0, 1, 3, 10, 25, 60))):
        piece = chance.choice((chance.randint(-9, 9), chance.randint(-1000000000, 1000000000)))
        feeds.append((chance.randrange(count), chance.randint(0, latest), piece))
    return (stations, belts, feeds)


def drawn_turns(works, seed, length):
    """A row of steps: fair by chance, or unfair: some stations nearly never, or one many times on end."""
    chance = random.Random(seed)
    numbers = range(len(works[0]))
    weights = [chance.choice((1, 1, 5, 50)) for number in numbers]
    turns = []
    while len(turns) < length:
        turns += chance.choices(numbers, weights) * chance.choice((1, 1, 1, 2, 20))
    return turns[:length]


class Teller:
    """What a station puts, by the words of [8]."""

    def __init__(self, works, station):
        stations, belts, feeds = works
        self.kind = stations[station]
        self.out = [number for number, belt in enumerate(belts) if belt[0] == station]
        self.ways = [number for number, belt in enumerate(belts) if belt[1] == station]
        if any(feed[0] == station for feed in feeds):
            self.ways.insert(0, -1)
        self.pieces = []

    def puts(self, way, piece):
        self.pieces.append((way, piece))
        if self.kind[0] == "sink" or not self.out:
            return None
        if self.kind[0] == "relay":
            return self.out[0], piece + self.kind[1]
        if self.kind[0] == "sorter":
            return self.out[piece % len(self.out)], piece
        if self.kind[0] == "thinner":
            return None if len(self.pieces) % self.kind[1] == 0 else (self.out[0], piece)
        return self.joined(way)

    def joined(self, way):
        by_way = {each: [told[1] for told in self.pieces if told[0] == each] for each in self.ways}
        whole = min(len(pieces) for pieces in by_way.values())
        before = min(len(pieces) - (each == way) for each, pieces in by_way.items())
        # As many sums as the way with the fewest pieces has had are put in all.
        if before == whole:
            return None
        return self.out[0], sum(pieces[whole - 1] for pieces in by_way.values())


def reckoned(works, until):
    """The lists of [10] and the causes of [11], moment by moment."""
    stations, belts, feeds = works
    tellers = [Teller(works, number) for number in range(len(stations))]
    coming = {}
    for station, time, piece in feeds:
        coming.setdefault((time, station), []).append((-1, piece, None))
    lists, causes = [[] for told in stations], [[] for told in stations]
    for time in range(until + 1):
        for station in range(len(stations)):
            for way, piece, cause in sorted(coming.pop((time, station), []), key=lambda told: told[0]):
                put = tellers[station].puts(way, piece)
                if put is not None:
                    start, goal, delay = belts[put[0]]
                    told = (put[0], put[1], (station, len(lists[station])))
                    coming.setdefault((time + delay, goal), []).append(told)
                lists[station].append((time, way, piece))
                causes[station].append(cause)
    return lists, causes


class Model:
    """The own clocks of [12] to [15], never being a number later than each other one."""

    def __init__(self, works):
        self.belts = list(works[1])
        self.tellers = [Teller(works, number) for number in range(len(works[0]))]
        self.lies = {("belt", number): [] for number in range(len(self.belts))}
        for number in range(len(works[0])):
            feeds = sorted((time, place, piece) for place, (goal, time, piece) in enumerate(works[2]) if goal == number)
            self.lies["door", number] = [(time, -1, piece) for time, place, piece in feeds]
        self.given = [delay for start, goal, delay in self.belts]
        self.took = [[] for told in works[0]]

    def row(self, station, way):
        return self.lies[("door", station) if way == -1 else ("belt", way)]

    def bound(self, station, way):
        row = self.row(station, way)
        return row[0][0] if row else NEVER if way == -1 else self.given[way]

    def now(self, station):
        return min([self.bound(station, way) for way in self.tellers[station].ways], default=NEVER)

    def safe(self, station, event):
        for belt in self.tellers[station].ways:
            if belt != -1 and not self.row(station, belt):
                if self.given[belt] < event[0] or self.given[belt] == event[0] and belt < event[1]:
                    return False
        return True

    def step(self, station):
        teller = self.tellers[station]
        firsts = sorted(self.row(station, way)[0] for way in teller.ways if self.row(station, way))
        took = bool(firsts) and self.safe(station, firsts[0])
        if took:
            time, way, piece = self.row(station, firsts[0][1]).pop(0)
            self.took[station].append((time, way, piece))
            put = teller.puts(way, piece)
            if put is not None:
                self.lies["belt", put[0]].append((time + self.belts[put[0]][2], put[0], put[1]))
        before, now = list(self.given), self.now(station)
        for belt in teller.out:
            self.given[belt] = max(self.given[belt], now + self.belts[belt][2])
        return "took" if took else "raised" if before != self.given else "none"

    def state(self):
        told = [None if time == NEVER else time for time in self.given]
        clocks = [self.now(station) for station in range(len(self.took))]
        return (
            [list(took) for took in self.took], [None if time == NEVER else time for time in clocks], told,
            [list(self.lies["belt", belt]) for belt in range(len(self.belts))],
        )


def state(own, works):
    """All that an Own tells: taken, clocks, promises and waiting."""
    stations, belts = range(len(works[0])), range(len(works[1]))
    return (
        [own.taken(station) for station in stations], [own.clock(station) for station in stations],
        [own.promise(belt) for belt in belts], [own.waiting(belt) for belt in belts],
    )


def upto(lists, until):
    return [[event for event in events if event[0] <= until] for events in lists]


def lists_within(value):
    """Each list in a value, itself and those within it."""
    found = [value] if isinstance(value, list) else []
    if isinstance(value, (list, tuple)):
        for inner in value:
            found += lists_within(inner)
    return found
