"""How much comes to the places and stations of an open network, and how busy they are with it."""

from openqueues.limits import SERVER_FOR_EVERYBODY
from openqueues.ratio import is_less, plus, times
from openqueues.routing import all_can_get_out, traffic_rates


def station_sums(network, place_values):
    sums = [(0, 1)] * network.station_count
    for place, value in enumerate(place_values):
        station = network.station_of(place)
        sums[station] = plus(sums[station], value)
    return sums


def utilization_of(network, station, load):
    if network.kinds[station] == SERVER_FOR_EVERYBODY:
        return (0, 1)
    return times(load, (1, network.servers[station]))


class Flow:
    def __init__(self, network):
        self.network = network
        self.place_rates = traffic_rates(network)
        self.station_rates = station_sums(network, self.place_rates)
        self.station_loads = station_sums(network, [
            times(rate, (1, service)) for rate, service in zip(self.place_rates, network.service_rates)])
        self.utilizations = [utilization_of(network, station, load)
                             for station, load in enumerate(self.station_loads)]


# None where the network is not open: there is no traffic then.
def open_flow(network):
    if not all_can_get_out(network):
        return None
    return Flow(network)


# None where the network is not stable.
def stable_flow(network):
    flow = open_flow(network)
    if flow is None or not all([is_less(utilization, (1, 1)) for utilization in flow.utilizations]):
        return None
    return flow


def busiest_station(flow):
    busiest = 0
    for station, utilization in enumerate(flow.utilizations):
        if is_less(flow.utilizations[busiest], utilization):
            busiest = station
    return busiest
