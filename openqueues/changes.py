"""The operations 1 to 7, which change a network."""

from openqueues.limits import IN_ORDER_OF_ARRIVAL, LAST_KIND, MOST_ARRIVAL, MOST_FACTOR
from openqueues.limits import MOST_SERVERS, MOST_SERVICE, MOST_WEIGHT, NO_RESULT, NO_SUCH_PLACE
from openqueues.limits import OUT_OF_RANGE


def most_servers(kind):
    if kind == IN_ORDER_OF_ARRIVAL:
        return MOST_SERVERS
    return 1


def exchange(values, place, value):
    old_value = values[place]
    values[place] = value
    return [old_value]


def set_station(network, given):
    station, kind, servers = given
    if not network.has_station(station):
        return [NO_SUCH_PLACE]
    if kind > LAST_KIND or servers < 1 or servers > most_servers(kind):
        return [OUT_OF_RANGE]
    network.kinds[station] = kind
    network.servers[station] = servers
    if kind == IN_ORDER_OF_ARRIVAL:
        first_place = network.place_of(station, 0)
        network.set_all_services(station, network.service_rates[first_place])
    return [0]


def set_service(network, given):
    station, customer_class, service = given
    if not network.has_place(station, customer_class):
        return [NO_SUCH_PLACE]
    if service < 1 or service > MOST_SERVICE:
        return [OUT_OF_RANGE]
    place = network.place_of(station, customer_class)
    old_service = network.service_rates[place]
    if network.kinds[station] == IN_ORDER_OF_ARRIVAL:
        network.set_all_services(station, service)
    else:
        network.service_rates[place] = service
    return [old_service]


def set_arrival(network, given):
    station, customer_class, arrival = given
    if not network.has_place(station, customer_class):
        return [NO_SUCH_PLACE]
    if arrival > MOST_ARRIVAL:
        return [OUT_OF_RANGE]
    return exchange(network.arrival_rates, network.place_of(station, customer_class), arrival)


def set_route(network, given):
    station, customer_class, to_station, to_class, weight = given
    if not network.has_place(station, customer_class) or not network.has_place(to_station, to_class):
        return [NO_SUCH_PLACE]
    if weight > MOST_WEIGHT:
        return [OUT_OF_RANGE]
    weights = network.route_weights[network.place_of(station, customer_class)]
    return exchange(weights, network.place_of(to_station, to_class), weight)


def set_leaving(network, given):
    station, customer_class, weight = given
    if not network.has_place(station, customer_class):
        return [NO_SUCH_PLACE]
    if weight > MOST_WEIGHT:
        return [OUT_OF_RANGE]
    return exchange(network.leaving_weights, network.place_of(station, customer_class), weight)


def clear_routes(network, given):
    station, customer_class = given
    if not network.has_place(station, customer_class):
        return [NO_SUCH_PLACE]
    place = network.place_of(station, customer_class)
    old_sum = sum(network.route_weights[place]) + network.leaving_weights[place]
    network.route_weights[place] = [0] * network.place_count
    network.leaving_weights[place] = 0
    return [old_sum]


# A rate that is too great is answered ahead of one that is not whole, at whatever places they are.
def scale_arrivals(network, given):
    num, den = given
    if num > MOST_FACTOR or den < 1 or den > MOST_FACTOR:
        return [OUT_OF_RANGE]
    products = [num * arrival for arrival in network.arrival_rates]
    if max(products) // den > MOST_ARRIVAL:
        return [OUT_OF_RANGE]
    if any([product % den > 0 for product in products]):
        return [NO_RESULT]
    network.arrival_rates = [product // den for product in products]
    return [0]


FIRST_CHANGE = 1
CHANGES = (set_station, set_service, set_arrival, set_route, set_leaving, clear_routes, scale_arrivals)


def answer_change(network, number, given):
    change = CHANGES[number - FIRST_CHANGE]
    return change(network, given)
