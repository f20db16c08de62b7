"""What a station of each kind puts when it takes a piece."""

from ownclocks.works import sides


class Station:
    def __init__(self, ways, belts):
        # Tuples, so that nobody can change behind what the station goes by.
        self.ways = tuple(ways)
        self.belts = tuple(belts)

    def take(self, way, piece):
        return None

    def on_first(self, piece):
        return (self.belts[0], piece) if len(self.belts) > 0 else None


class Relay(Station):
    def __init__(self, ways, belts, more):
        Station.__init__(self, ways, belts)
        self.more = more

    def take(self, way, piece):
        return self.on_first(piece + self.more)


class Sorter(Station):
    def take(self, way, piece):
        if len(self.belts) == 0:
            return None
        return (self.belts[piece % len(self.belts)], piece)


class Thinner(Station):
    def __init__(self, ways, belts, every):
        Station.__init__(self, ways, belts)
        self.every = every
        self.seen = 0

    def take(self, way, piece):
        self.seen = self.seen + 1
        # No count is a multiple of 0, which lies beyond the bounds but is not refused here.
        if self.every != 0 and self.seen % self.every == 0:
            return None
        return self.on_first(piece)


class Joiner(Station):
    def __init__(self, ways, belts):
        Station.__init__(self, ways, belts)
        self.kept = {}
        for way in self.ways:
            self.kept[way] = []

    def take(self, way, piece):
        self.kept[way].append(piece)
        if any([len(self.kept[each]) == 0 for each in self.ways]):
            return None
        total = 0
        for each in self.ways:
            total = total + self.kept[each].pop(0)
        return self.on_first(total)


class Sink(Station):
    pass


def station_of(works, station):
    told = works[0][station]
    kind = told[0]
    around = sides(works, station)
    if kind == "relay":
        return Relay(around[0], around[1], told[1])
    if kind == "sorter":
        return Sorter(around[0], around[1])
    if kind == "thinner":
        return Thinner(around[0], around[1], told[1])
    if kind == "joiner":
        return Joiner(around[0], around[1])
    return Sink(around[0], around[1])
