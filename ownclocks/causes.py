"""Where the events that a works takes by one clock come from."""

from ownclocks.clock import traced


def causes(works, until):
    return traced(works, until)[1]


def chain(works, until, station, place):
    origins = causes(works, until)
    links = [(station, place)]
    cause = origins[station][place]
    while cause is not None:
        links.append(cause)
        cause = origins[cause[0]][cause[1]]
    return links
