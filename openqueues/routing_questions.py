"""The operations 8 to 12, which ask for what follows from the routing."""

from openqueues.forms import counted_fractions, lone_fraction, one_or_zero
from openqueues.limits import NO_RESULT, NO_SUCH_PLACE
from openqueues.routing import all_can_get_out, probability_to_go, probability_to_leave
from openqueues.routing import traffic_rates, visits_from


def route_probability(network, given):
    station, customer_class, to_station, to_class = given
    if not network.has_place(station, customer_class) or not network.has_place(to_station, to_class):
        return [NO_SUCH_PLACE]
    place = network.place_of(station, customer_class)
    return lone_fraction(probability_to_go(network, place, network.place_of(to_station, to_class)))


def leave_probability(network, given):
    station, customer_class = given
    if not network.has_place(station, customer_class):
        return [NO_SUCH_PLACE]
    return lone_fraction(probability_to_leave(network, network.place_of(station, customer_class)))


def is_open(network, given):
    return [one_or_zero(all_can_get_out(network))]


def traffic(network, given):
    if not all_can_get_out(network):
        return [NO_RESULT]
    return counted_fractions(traffic_rates(network))


def visits(network, given):
    station, customer_class = given
    if not network.has_place(station, customer_class):
        return [NO_SUCH_PLACE]
    if not all_can_get_out(network):
        return [NO_RESULT]
    return counted_fractions(visits_from(network, network.place_of(station, customer_class)))


FIRST_QUESTION = 8
QUESTIONS = (route_probability, leave_probability, is_open, traffic, visits)


def answer_routing_question(network, number, given):
    question = QUESTIONS[number - FIRST_QUESTION]
    return question(network, given)
