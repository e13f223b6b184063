"""What the tests share: calls by their names, the answers one by one, and a network to look at whole."""

from openqueues.network import answers

NUMBERS = {
    "create": 0, "set_station": 1, "set_service": 2, "set_arrival": 3, "set_route": 4,
    "set_leaving": 5, "clear_routes": 6, "scale_arrivals": 7, "route_probability": 8,
    "leave_probability": 9, "is_open": 10, "traffic": 11, "visits": 12,
}

FAR_OUT = 4294967295


def flat(calls):
    """The calls, each a name and its whole numbers, as the one list that is handed in."""
    if not 1 <= len(calls) <= 60:
        raise ValueError("a list has 1 to 60 calls")
    handed_in = []
    for name, *numbers in calls:
        handed_in += [NUMBERS[name], *numbers]
    if len(handed_in) > 600:
        raise ValueError("a list has at most 600 numbers")
    return handed_in


def apart(answered):
    """The one list that is given back as a list of answers, one for each call."""
    found = []
    start = 0
    while start < len(answered):
        size = answered[start]
        found.append(answered[start + 1:start + 1 + size])
        if size < 1 or len(found[-1]) != size:
            raise ValueError("an answer is cut short")
        start += 1 + size
    return found


def ask(calls):
    found = apart(answers(flat(calls)))
    if len(found) != len(calls):
        raise ValueError("there are not as many answers as calls")
    return found


def last(calls):
    return ask(calls)[-1]


# Two stations, two classes, no two values alike; station 0 has the kind 1 and station 1 the kind 0.
SAMPLE = [
    ("create", 2, 2), ("set_station", 0, 1, 1),
    ("set_service", 0, 0, 5), ("set_service", 0, 1, 6), ("set_service", 1, 0, 7),
    ("set_arrival", 0, 0, 30), ("set_arrival", 1, 1, 41),
    ("set_route", 0, 0, 1, 1, 11), ("set_route", 1, 1, 0, 1, 12), ("set_route", 0, 1, 0, 0, 13),
    ("set_leaving", 1, 1, 14), ("set_route", 0, 0, 0, 0, 15),
]

PLACES = [(0, 0), (1, 0), (0, 1), (1, 1)]

# Tells all of a network of two stations and two classes: each setting answers the value before.
# The last four tell whether a service rate is that of a station or of a place alone.
LOOK = (
    [("traffic",), ("is_open",)]
    + [("visits", *place) for place in PLACES]
    + [("set_arrival", *place, 0) for place in PLACES]
    + [("set_leaving", *place, 0) for place in PLACES]
    + [("set_route", *place, *other, 0) for place in PLACES for other in PLACES]
    + [("set_service", *place, 1) for place in reversed(PLACES)]
    + [("set_service", station, number, 8 + number) for station in (0, 1) for number in (0, 1)]
)


def look(calls):
    """What a network of two stations and two classes holds behind the calls."""
    return ask(calls + LOOK)[len(calls):]


class Drawn:
    """Numbers that look drawn, and are the same in each run."""

    def __init__(self, seed):
        self.seed = seed

    def below(self, end):
        self.seed = (self.seed * 6364136223846793005 + 1442695040888963407) % 2 ** 64
        return (self.seed >> 33) % end
