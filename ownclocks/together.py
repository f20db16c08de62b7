"""All stations together, each at its own clock: by a row of steps, or round by round until a moment."""

from ownclocks.own import Own


def woven(works, turns):
    own = Own(works)
    for station in turns:
        own.step(station)
    return own


def is_behind(own, station, until):
    now = own.clock(station)
    return now is not None and now <= until


def behind(own, works, until):
    return [station for station in range(len(works[0])) if is_behind(own, station, until)]


def go_round(own, works):
    for station in range(len(works[0])):
        own.step(station)


def taken_until(own, station, until):
    # A station may have gone on beyond the moment while others were behind it yet.
    return [event for event in own.taken(station) if event[0] <= until]


def settled(works, until):
    own = Own(works)
    rounds = 0
    while len(behind(own, works, until)) > 0:
        go_round(own, works)
        rounds = rounds + 1
    return ([taken_until(own, station, until) for station in range(len(works[0]))], rounds)
