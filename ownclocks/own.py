"""A works whose stations go on by themselves, each at a clock of its own."""

from ownclocks.kinds import station_of
from ownclocks.works import DOOR, door_events


class Own:
    def __init__(self, works):
        # All is drawn from the works now, so that nobody can change it behind.
        self.stations = [station_of(works, station) for station in range(len(works[0]))]
        self.delays = [belt[2] for belt in works[1]]
        self.doors = [door_events(works, station) for station in range(len(works[0]))]
        self.rows = [[] for belt in works[1]]
        self.promises = [belt[2] for belt in works[1]]
        self.logs = [[] for station in works[0]]

    def taken(self, station):
        return list(self.logs[station])

    def waiting(self, belt):
        return list(self.rows[belt])

    def promise(self, belt):
        return self.promises[belt]

    def clock(self, station):
        times = [self.earliest(station, way) for way in self.stations[station].ways]
        return min([time for time in times if time is not None], default=None)

    def step(self, station):
        event = self.upcoming(station)
        took = event is not None and self.may_take(station, event)
        if took:
            self.take_event(station, event)
        raised = self.raise_promises(station)
        if took:
            return "took"
        return "raised" if raised else "none"

    def row(self, station, way):
        return self.doors[station] if way == DOOR else self.rows[way]

    def earliest(self, station, way):
        """The time ahead of which nothing comes on this way, or None where nothing comes on it any more."""
        row = self.row(station, way)
        if len(row) > 0:
            return row[0][0]
        return None if way == DOOR else self.promises[way]

    def upcoming(self, station):
        rows = [self.row(station, way) for way in self.stations[station].ways]
        firsts = [row[0] for row in rows if len(row) > 0]
        return min(firsts, key=lambda event: (event[0], event[1]), default=None)

    def may_take(self, station, event):
        return all([self.lets(belt, event) for belt in self.stations[station].ways if belt != DOOR])

    def lets(self, belt, event):
        # What lies on a belt stands ahead of all that is still put on it, so only an empty one can hold up.
        if len(self.rows[belt]) > 0:
            return True
        given = self.promises[belt]
        # A piece of the event's own time would be taken ahead of it where its way is the lesser one.
        return given is None or (given, belt) > (event[0], event[1])

    def take_event(self, station, event):
        self.row(station, event[1]).pop(0)
        self.logs[station].append(event)
        put = self.stations[station].take(event[1], event[2])
        if put is not None:
            belt = put[0]
            self.rows[belt].append((event[0] + self.delays[belt], belt, put[1]))

    def raise_promises(self, station):
        # Reckoned once: where a belt comes back to its start, raising its promise may raise the clock.
        now = self.clock(station)
        raised = False
        for belt in self.stations[station].belts:
            if self.raise_promise(belt, now):
                raised = True
        return raised

    def raise_promise(self, belt, now):
        old = self.promises[belt]
        new = None if now is None else now + self.delays[belt]
        if old is None or (new is not None and new <= old):
            return False
        self.promises[belt] = new
        return True
