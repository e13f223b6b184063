"""What the tests share: calls by their names, the answers one by one, networks to look at and to reckon with."""

import math
from fractions import Fraction

from openqueues.network import answers

NUMBERS = {
    "create": 0, "set_station": 1, "set_service": 2, "set_arrival": 3, "set_route": 4,
    "set_leaving": 5, "clear_routes": 6, "scale_arrivals": 7, "route_probability": 8,
    "leave_probability": 9, "is_open": 10, "traffic": 11, "visits": 12, "utilizations": 13,
    "is_stable": 14, "bottleneck": 15, "numbers": 16, "place_number": 17, "visit_time": 18,
    "time_from": 19, "network_time": 20, "departures": 21, "number_probability": 22,
    "state_probability": 23, "growth": 24, "summary": 25,
}

FAR_OUT = 4294967295
MOST_CALLS = 60


def flat(calls):
    """The calls, each a name and its whole numbers, as the one list that is handed in."""
    if not 1 <= len(calls) <= MOST_CALLS:
        raise ValueError("a list has 1 to 60 calls")
    handed_in = []
    for name, *numbers in calls:
        if name == "state_probability":
            numbers = [len(numbers), *numbers]
        handed_in += [NUMBERS[name], *numbers]
    if len(handed_in) > 600:
        raise ValueError("a list has at most 600 numbers")
    return handed_in


def apart(answered):
    """The one list that is given back as a list of answers, one for each call."""
    found = []
    start = 0
    while start < len(answered):
        size = answered[start]
        found.append(answered[start + 1:start + 1 + size])
        if size < 1 or len(found[-1]) != size:
            raise ValueError("an answer is cut short")
        start += 1 + size
    return found


def ask(calls):
    found = apart(answers(flat(calls)))
    if len(found) != len(calls):
        raise ValueError("there are not as many answers as calls")
    return found


def last(calls):
    return ask(calls)[-1]


def ask_behind(calls, questions):
    """The answers to any number of questions, in as many lists as it takes."""
    found = []
    room = MOST_CALLS - len(calls)
    for start in range(0, len(questions), room):
        found += ask(calls + questions[start:start + room])[len(calls):]
    return found


def fractions_of(answer):
    """The fractions of an answer with a count, each of which has to be in lowest terms."""
    if len(answer) != 1 + 2 * answer[0]:
        raise ValueError("the count is wrong")
    pairs = list(zip(answer[1::2], answer[2::2]))
    for top, bottom in pairs:
        if top < 0 or bottom < 1 or math.gcd(top, bottom) != 1:
            raise ValueError("not in lowest terms")
    return [Fraction(top, bottom) for top, bottom in pairs]


def fraction_of(answer):
    """The fraction of an answer that is 0 and one fraction."""
    if len(answer) != 3 or answer[0] != 0:
        raise ValueError("not 0 and one fraction")
    return fractions_of([1, *answer[1:]])[0]


# Two stations, two classes, no two values alike; station 0 has the kind 1, station 1 has the kind 0
# and two servers. It is stable.
SAMPLE = [
    ("create", 2, 2), ("set_station", 0, 1, 1), ("set_station", 1, 0, 2),
    ("set_service", 0, 0, 500), ("set_service", 0, 1, 600), ("set_service", 1, 0, 700),
    ("set_arrival", 0, 0, 30), ("set_arrival", 1, 1, 41),
    ("set_route", 0, 0, 1, 1, 11), ("set_route", 1, 1, 0, 1, 12), ("set_route", 0, 1, 0, 0, 13),
    ("set_leaving", 1, 1, 14), ("set_route", 0, 0, 0, 0, 15),
]

PLACES = [(0, 0), (1, 0), (0, 1), (1, 1)]

# Tells all of a network of two stations and two classes: each setting answers the value before.
# The utilizations tell of servers and of a server for everybody; the last four calls tell
# whether a service rate is that of a station or of a place alone.
LOOK = (
    [("traffic",), ("is_open",), ("utilizations",), ("numbers",)]
    + [("visits", *place) for place in PLACES]
    + [("set_arrival", *place, 0) for place in PLACES]
    + [("set_leaving", *place, 0) for place in PLACES]
    + [("set_route", *place, *other, 0) for place in PLACES for other in PLACES]
    + [("set_service", *place, 1) for place in reversed(PLACES)]
    + [("set_service", station, number, 8 + number) for station in (0, 1) for number in (0, 1)]
)


def look(calls):
    """What a network of two stations and two classes holds behind the calls."""
    return ask(calls + LOOK)[len(calls):]


class Drawn:
    """Numbers that look drawn, and are the same in each run."""

    def __init__(self, seed):
        self.seed = seed

    def below(self, end):
        self.seed = (self.seed * 6364136223846793005 + 1442695040888963407) % 2 ** 64
        return (self.seed >> 33) % end

    def one_of(self, values):
        return values[self.below(len(values))]


def solved(rows, right_side):
    """The unknowns of linear equations over fractions."""
    table = [[Fraction(value) for value in row] + [Fraction(right)] for row, right in zip(rows, right_side)]
    for column in range(len(table)):
        pivot = next(at for at in range(column, len(table)) if table[at][column] != 0)
        table[column], table[pivot] = table[pivot], table[column]
        table[column] = [value / table[column][column] for value in table[column]]
        for at in range(len(table)):
            if at != column:
                factor = table[at][column]
                table[at] = [here - factor * there for here, there in zip(table[at], table[column])]
    return [row[-1] for row in table]


class Plan:
    """A network that the tests know by themselves, reckoned by the words of the document.

    Places are numbered in their order; kinds has a kind and a number of servers for a station,
    services a rate for a place. What is not named stands as a new network has it."""

    def __init__(self, stations, classes, arrivals, routes, leavings, kinds=None, services=None):
        self.places = [(station, number) for number in range(classes) for station in range(stations)]
        self.size = (stations, classes)
        self.arrivals = arrivals
        self.routes = routes
        self.leavings = leavings
        self.kinds = kinds or {}
        self.services = services or {}
        self.kept_traffic = None

    def calls(self):
        found = [("create", *self.size)]
        for station, (kind, servers) in self.kinds.items():
            found.append(("set_station", station, kind, servers))
        for place, rate in self.services.items():
            found.append(("set_service", *self.places[place], rate))
        for place, rate in self.arrivals.items():
            found.append(("set_arrival", *self.places[place], rate))
        for (place, other), weight in self.routes.items():
            found.append(("set_route", *self.places[place], *self.places[other], weight))
        for place, weight in self.leavings.items():
            found.append(("set_leaving", *self.places[place], weight))
        return found

    def total(self, place):
        return self.leavings.get(place, 0) + sum(
            weight for (start, end), weight in self.routes.items() if start == place)

    def going(self, place, other):
        weight = self.routes.get((place, other), 0)
        return Fraction(weight, self.total(place)) if weight else Fraction(0)

    def going_out(self, place):
        total = self.total(place)
        return Fraction(self.leavings.get(place, 0), total) if total else Fraction(1)

    def is_open(self):
        """By powers of the step, so as not to ask as the program does."""
        count = len(self.places)
        inside = [self.going_out(place) == 0 for place in range(count)]
        for step in range(count):
            inside = [self.going_out(place) == 0 and all(
                inside[other] for other in range(count) if self.going(place, other) > 0)
                for place in range(count)]
        return not any(inside)

    def flow(self, sources):
        count = len(self.places)
        rows = [[(1 if place == other else 0) - self.going(other, place) for other in range(count)]
                for place in range(count)]
        return solved(rows, [sources.get(place, 0) for place in range(count)])

    def traffic(self):
        if self.kept_traffic is None:
            self.kept_traffic = self.flow(self.arrivals)
        return self.kept_traffic

    def kind(self, station):
        return self.kinds.get(station, (0, 1))[0]

    def servers(self, station):
        return self.kinds.get(station, (0, 1))[1]

    def service(self, place):
        station = self.places[place][0]
        return self.services.get(station if self.kind(station) == 0 else place, 1)

    def at(self, station):
        return [place for place, pair in enumerate(self.places) if pair[0] == station]

    def load(self, place):
        return self.traffic()[place] / self.service(place)

    def station_load(self, station):
        return sum(self.load(place) for place in self.at(station))

    def station_rate(self, station):
        return sum(self.traffic()[place] for place in self.at(station))

    def utilization(self, station):
        return Fraction(0) if self.kind(station) == 2 else self.station_load(station) / self.servers(station)

    def utilizations(self):
        return [self.utilization(station) for station in range(self.size[0])]

    def is_stable(self):
        return self.is_open() and max(self.utilizations()) < 1

    def queue(self, station):
        load = self.station_load(station)
        blocked = Fraction(1)
        for number in range(self.servers(station)):
            blocked = load * blocked / (number + 1 + load * blocked)
        used = self.utilization(station)
        return blocked / (1 - used * (1 - blocked)) * used / (1 - used)

    def number(self, place):
        station = self.places[place][0]
        rate = self.traffic()[place]
        if self.kind(station) == 0:
            return self.load(place) + (self.queue(station) * rate / self.station_rate(station) if rate else 0)
        return self.load(place) / (1 - self.utilization(station))

    def numbers(self):
        found = [sum(self.number(place) for place in self.at(station)) for station in range(self.size[0])]
        return found + [sum(found)]

    def visit_time(self, place):
        station = self.places[place][0]
        alone = Fraction(1, self.service(place))
        if self.kind(station) == 0:
            rate = self.station_rate(station)
            return alone + (self.queue(station) / rate if rate else 0)
        return alone / (1 - self.utilization(station))

    def time_from(self, start):
        return sum(visits * self.visit_time(place) for place, visits in enumerate(self.flow({start: 1})))

    def weight_of_number(self, station, number):
        load, servers = self.station_load(station), self.servers(station)
        if number <= servers:
            return load ** number / math.factorial(number)
        return load ** servers / math.factorial(servers) * self.utilization(station) ** (number - servers)

    def number_probability(self, station, number):
        servers = self.servers(station)
        first = sum(self.weight_of_number(station, number) for number in range(servers))
        # From as many customers as there are servers on it is a geometric series.
        others = self.weight_of_number(station, servers) / (1 - self.utilization(station))
        return self.weight_of_number(station, number) / (first + others)


def drawn_plan(seed, stations, classes, most_routes, most_rate=100000):
    drawn = Drawn(seed)
    count = stations * classes
    arrivals = {drawn.below(count): drawn.below(most_rate + 1) for number in range(4)}
    routes = {}
    for number in range(drawn.below(most_routes + 1)):
        routes[(drawn.below(count), drawn.below(count))] = 1 + drawn.below(1000)
    leavings = {drawn.below(count): 1 + drawn.below(1000) for number in range(drawn.below(count + 1))}
    return Plan(stations, classes, arrivals, routes, leavings)


def furnish(plan, seed, kinds=(0, 1, 2, 3), slack=8):
    """Gives the stations of an open plan kinds, servers and service rates, for the most part fast enough."""
    drawn = Drawn(seed)
    for station in range(plan.size[0]):
        kind = drawn.one_of(kinds)
        plan.kinds[station] = (kind, drawn.one_of((1, 2, 3, 7, 20)) if kind == 0 else 1)
        for place in plan.at(station)[:1 if kind == 0 else None]:
            wanted = plan.station_rate(station) * plan.size[1] * (1 + drawn.below(slack)) / 4
            plan.services[place] = min(100000, 1 + math.ceil(wanted / plan.servers(station)) + drawn.below(3))
    return plan


# Numbers of stations, of classes and of routes at most, with room for all that furnish adds.
DRAWN_SIZES = [(1, 1, 2), (2, 1, 4), (1, 3, 5), (2, 2, 6), (3, 2, 8), (5, 1, 10), (4, 3, 12), (5, 3, 14)]


def drawn_plans(count, kinds=(0, 1, 2, 3), sizes=DRAWN_SIZES):
    """Furnished plans that are open, not all of them stable."""
    found = []
    seed = 0
    while len(found) < count:
        plan = drawn_plan(seed, *sizes[len(found) % len(sizes)], most_rate=40)
        if plan.is_open() and any(plan.arrivals.values()):
            found.append(furnish(plan, seed, kinds))
        seed += 1
    return found
