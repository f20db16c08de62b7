"""A works run by one clock, piece by piece in the order of time."""

from ownclocks.kinds import station_of
from ownclocks.works import door_events


# An arrival is a tuple (station, event, cause).
def at_doors(works):
    arrivals = []
    for station in range(len(works[0])):
        for event in door_events(works, station):
            arrivals.append((station, event, None))
    return arrivals


def arrival_of(works, put, time, cause):
    belt = works[1][put[0]]
    return (belt[1], (time + belt[2], put[0], put[1]), cause)


# Stations need no order among them: as each delay is 1 at least, those of one time don't touch one another.
def rank(arrival):
    return (arrival[1][0], arrival[1][1])


def traced(works, until):
    """For each station the events that it takes, and beside them, as another list of lists, their causes."""
    takers = [station_of(works, station) for station in range(len(works[0]))]
    events = [[] for taker in takers]
    origins = [[] for taker in takers]
    arrivals = at_doors(works)
    while len(arrivals) > 0:
        # Of arrivals of one rank this is the one that was laid down first.
        first = min(arrivals, key=rank)
        station = first[0]
        event = first[1]
        if event[0] > until:
            break
        arrivals.remove(first)
        put = takers[station].take(event[1], event[2])
        if put is not None:
            arrivals.append(arrival_of(works, put, event[0], (station, len(events[station]))))
        events[station].append(event)
        origins[station].append(first[2])
    return (events, origins)


def run(works, until):
    return traced(works, until)[0]
