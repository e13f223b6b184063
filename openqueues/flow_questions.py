"""The operations 13 to 25, which ask for loads, numbers, times and probabilities."""

from openqueues.flow import busiest_station, open_flow, stable_flow, station_sums
from openqueues.forms import counted_fractions, lone_fraction, one_or_zero
from openqueues.limits import MOST_CUSTOMERS, NO_ARRIVALS, NO_RESULT, NO_SUCH_PLACE, OUT_OF_RANGE
from openqueues.limits import SERVER_FOR_EVERYBODY
from openqueues.measures import place_numbers, probability_at, time_from_place, visit_times
from openqueues.ratio import over, product, times, total
from openqueues.routing import all_can_get_out, probability_to_leave


def utilizations(network, given):
    flow = open_flow(network)
    if flow is None:
        return [NO_RESULT]
    return counted_fractions(flow.utilizations)


def is_stable(network, given):
    return [one_or_zero(stable_flow(network) is not None)]


def bottleneck(network, given):
    flow = open_flow(network)
    if flow is None:
        return [NO_RESULT]
    station = busiest_station(flow)
    top, bottom = flow.utilizations[station]
    return [station, top, bottom]


def numbers(network, given):
    flow = stable_flow(network)
    if flow is None:
        return [NO_RESULT]
    station_numbers = station_sums(network, place_numbers(flow))
    return counted_fractions(station_numbers + [total(station_numbers)])


# What the calls for one place alone share: the measure is asked with the flow and the place.
def answer_at_place(network, given, measure):
    station, customer_class = given
    if not network.has_place(station, customer_class):
        return [NO_SUCH_PLACE]
    flow = stable_flow(network)
    if flow is None:
        return [NO_RESULT]
    return lone_fraction(measure(flow, network.place_of(station, customer_class)))


def place_number(network, given):
    return answer_at_place(network, given, lambda flow, place: place_numbers(flow)[place])


def visit_time(network, given):
    return answer_at_place(network, given, lambda flow, place: visit_times(flow)[place])


def time_from(network, given):
    return answer_at_place(network, given, time_from_place)


def network_time(network, given):
    arrivals = sum(network.arrival_rates)
    if arrivals == 0:
        return [NO_ARRIVALS]
    flow = stable_flow(network)
    if flow is None:
        return [NO_RESULT]
    return lone_fraction(times(total(place_numbers(flow)), (1, arrivals)))


def departures(network, given):
    flow = open_flow(network)
    if flow is None:
        return [NO_RESULT]
    return counted_fractions([times(rate, probability_to_leave(network, place))
                              for place, rate in enumerate(flow.place_rates)])


def number_probability(network, given):
    station, customers = given
    if not network.has_station(station):
        return [NO_SUCH_PLACE]
    if customers > MOST_CUSTOMERS:
        return [OUT_OF_RANGE]
    flow = stable_flow(network)
    if flow is None or network.kinds[station] == SERVER_FOR_EVERYBODY:
        return [NO_RESULT]
    return lone_fraction(probability_at(flow, station, customers))


# Ahead of the numbers stands how many they are.
def state_probability(network, given):
    customers_at = given[1:]
    if len(customers_at) != network.station_count or max(customers_at) > MOST_CUSTOMERS:
        return [OUT_OF_RANGE]
    flow = stable_flow(network)
    if flow is None or SERVER_FOR_EVERYBODY in network.kinds:
        return [NO_RESULT]
    return lone_fraction(product([probability_at(flow, station, customers)
                                  for station, customers in enumerate(customers_at)]))


def growth(network, given):
    flow = open_flow(network)
    if flow is None:
        return [NO_RESULT]
    greatest = flow.utilizations[busiest_station(flow)]
    if greatest == (0, 1):
        return [NO_RESULT]
    return lone_fraction(over((1, 1), greatest))


def summary(network, given):
    opened = one_or_zero(all_can_get_out(network))
    return [network.station_count, network.class_count, opened] + is_stable(network, given)


FIRST_QUESTION = 13
QUESTIONS = (utilizations, is_stable, bottleneck, numbers, place_number, visit_time, time_from,
             network_time, departures, number_probability, state_probability, growth, summary)


def answer_flow_question(network, number, given):
    question = QUESTIONS[number - FIRST_QUESTION]
    return question(network, given)
