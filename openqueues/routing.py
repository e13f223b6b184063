"""Where customers go after a service, and what follows from that alone."""

from openqueues.linear import solve
from openqueues.ratio import lowest_terms


# Where all weights are 0 customers always leave, just as if leaving alone had a weight.
def leaving_weight(network, place):
    if network.leaving_weights[place] == 0 and sum(network.route_weights[place]) == 0:
        return 1
    return network.leaving_weights[place]


def total_weight(network, place):
    return sum(network.route_weights[place]) + leaving_weight(network, place)


def probability_to_go(network, place, to_place):
    return lowest_terms(network.route_weights[place][to_place], total_weight(network, place))


def probability_to_leave(network, place):
    return lowest_terms(leaving_weight(network, place), total_weight(network, place))


def leads_to_marked(weights, marked):
    for weight, mark in zip(weights, marked):
        if weight > 0 and mark:
            return True
    return False


# Marks the places from which customers can get out, from those where they leave backwards.
def all_can_get_out(network):
    places = list(range(network.place_count))
    marked = [leaving_weight(network, place) > 0 for place in places]
    grown = True
    while grown:
        grown = False
        for place in places:
            if not marked[place] and leads_to_marked(network.route_weights[place], marked):
                marked[place] = True
                grown = True
    return all(marked)


# The unknown of a place is its rate divided by its total weight, which keeps all entries whole.
def flow_equations(network):
    places = list(range(network.place_count))
    rows = []
    for to_place in places:
        row = [-network.route_weights[place][to_place] for place in places]
        row[to_place] = row[to_place] + total_weight(network, to_place)
        rows.append(row)
    return rows


# For an open network alone: there the leading minors of the equations are all above 0,
# and no rate is below 0.
def rates_from_sources(network, sources):
    tops, bottom = solve(flow_equations(network), sources)
    return [lowest_terms(total_weight(network, place) * top, bottom)
            for place, top in enumerate(tops)]


def traffic_rates(network):
    return rates_from_sources(network, network.arrival_rates)


def visits_from(network, start):
    sources = [0] * network.place_count
    sources[start] = 1
    return rates_from_sources(network, sources)
