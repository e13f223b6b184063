"""Times and numbers at the places of a stable network, and the probabilities at its stations."""

from openqueues.limits import IN_ORDER_OF_ARRIVAL, SERVER_FOR_EVERYBODY
from openqueues.ratio import over, plus, rest_to_one, times, total
from openqueues.routing import visits_from
from openqueues.station import probability_of_number, queue_length


# The mean time before the service begins.
def wait_at(flow, station):
    rate = flow.station_rates[station]
    if flow.network.kinds[station] != IN_ORDER_OF_ARRIVAL or rate == (0, 1):
        return (0, 1)
    return over(queue_length(flow.station_loads[station], flow.network.servers[station]), rate)


# By what the mean time of a service is multiplied, as the server is shared or interrupted.
def stretch_at(flow, station):
    if flow.network.kinds[station] in (IN_ORDER_OF_ARRIVAL, SERVER_FOR_EVERYBODY):
        return (1, 1)
    return over((1, 1), rest_to_one(flow.utilizations[station]))


def visit_times(flow):
    network = flow.network
    stations = list(range(network.station_count))
    waits = [wait_at(flow, station) for station in stations]
    stretches = [stretch_at(flow, station) for station in stations]
    found = []
    for place, service in enumerate(network.service_rates):
        station = network.station_of(place)
        found.append(plus(times((1, service), stretches[station]), waits[station]))
    return found


# At each kind of station the number of a place is its rate times its visit time.
def place_numbers(flow):
    return [times(rate, spent) for rate, spent in zip(flow.place_rates, visit_times(flow))]


def time_from_place(flow, start):
    return total([times(visits, spent)
                  for visits, spent in zip(visits_from(flow.network, start), visit_times(flow))])


# For a station that is not one with a server for everybody.
def probability_at(flow, station, customers):
    return probability_of_number(flow.station_loads[station], flow.network.servers[station], customers)
