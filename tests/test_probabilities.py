"""The calls 22 and 23: the probabilities of numbers of customers at one station and at all of them."""

import math
import unittest
from fractions import Fraction

from helper import Drawn, Plan, ask, ask_behind, drawn_plans, fraction_of, fractions_of, last

ALL_NUMBERS = list(range(61))


def probabilities(calls, station, numbers):
    questions = [("number_probability", station, number) for number in numbers]
    return [fraction_of(answer) for answer in ask_behind(calls, questions)]


def alone(kind, servers, service, rates):
    calls = [("create", 1, len(rates)), ("set_station", 0, kind, servers), ("set_service", 0, 0, service)]
    return calls + [("set_arrival", 0, number, rate) for number, rate in enumerate(rates)]


def proportions(load, servers, numbers):
    used = load / servers
    return [load ** number / math.factorial(number) if number <= servers
            else load ** servers / math.factorial(servers) * used ** (number - servers) for number in numbers]


class OneStation(unittest.TestCase):
    def test_one_server_by_hand(self):
        for kind in (0, 1, 3):
            calls = alone(kind, 1, 3, [2])
            with self.subTest(kind=kind):
                expected = [Fraction(1, 3) * Fraction(2, 3) ** number for number in ALL_NUMBERS]
                self.assertEqual(probabilities(calls, 0, ALL_NUMBERS), expected)

    def test_two_servers_by_hand(self):
        # The load is 1: proportional to 1, 1, 1/2, 1/4 and so on, which sum to 3.
        expected = [Fraction(1, 3), Fraction(1, 3), Fraction(1, 6), Fraction(1, 12), Fraction(1, 24)]
        self.assertEqual(probabilities(alone(0, 2, 3, [3]), 0, range(5)), expected)
        self.assertEqual(probabilities(alone(0, 2, 3, [1, 0, 2]), 0, range(5)), expected)

    def test_as_many_customers_as_servers_and_about_as_many(self):
        for servers in (1, 2, 3, 19, 20):
            load = servers - Fraction(2, 5)
            calls = alone(0, servers, 5, [5 * servers - 2])
            numbers = [0, 1, servers - 1, servers, servers + 1, servers + 2, 59, 60]
            with self.subTest(servers=servers):
                found = probabilities(calls, 0, numbers)
                weights = proportions(load, servers, numbers)
                for probability, weight in zip(found, weights):
                    self.assertEqual(probability * weights[0], weight * found[0])

    def test_they_sum_to_1_with_what_is_left_for_more(self):
        for servers in (1, 2, 20):
            for rates in ([1, 0, 3], [servers, 4, 2 * servers]):
                calls = alone(0, servers, 11, rates)
                used = Fraction(sum(rates), 11 * servers)
                found = probabilities(calls, 0, ALL_NUMBERS)
                with self.subTest(servers=servers, rates=rates):
                    for number in range(servers, 61):
                        left = found[number] * used / (1 - used)
                        self.assertEqual(sum(found[:number + 1]) + left, 1)

    def test_the_mean_is_the_number(self):
        for kind, servers in [(0, 1), (0, 4), (1, 1), (3, 1)]:
            calls = alone(kind, servers, 9, [5])
            used = Fraction(5, 9 * servers)
            found = probabilities(calls, 0, ALL_NUMBERS)
            # From 60 on each is the one before times the utilization.
            left = found[60] * (60 * used / (1 - used) + used / (1 - used) ** 2)
            mean = sum(number * probability for number, probability in enumerate(found)) + left
            with self.subTest(kind=kind, servers=servers):
                self.assertEqual(mean, fraction_of(last(calls + [("place_number", 0, 0)])))

    def test_classes_with_several_service_rates(self):
        for kind in (1, 3):
            calls = [("create", 1, 2), ("set_station", 0, kind, 1), ("set_service", 0, 0, 4),
                     ("set_service", 0, 1, 6), ("set_arrival", 0, 0, 1), ("set_arrival", 0, 1, 3)]
            with self.subTest(kind=kind):
                # The load is 1/4 + 1/2.
                self.assertEqual(probabilities(calls, 0, [0, 1, 5]),
                                 [Fraction(1, 4), Fraction(3, 16), Fraction(1, 4) * Fraction(3, 4) ** 5])

    def test_nobody_comes(self):
        for kind, servers in [(0, 1), (0, 2), (0, 20), (1, 1), (3, 1)]:
            calls = alone(kind, servers, 3, [0, 0])
            with self.subTest(kind=kind, servers=servers):
                self.assertEqual(probabilities(calls, 0, [0, 1, 2, 20, 21, 60]), [1, 0, 0, 0, 0, 0])
                self.assertEqual(ask(calls + [("number_probability", 0, 60)])[-1], [0, 0, 1])

    def test_a_server_for_everybody_has_none(self):
        calls = alone(2, 1, 3, [2])
        for number in (0, 1, 60):
            self.assertEqual(last(calls + [("number_probability", 0, number)]), [-33])
        self.assertEqual(last(calls + [("number_probability", 0, 61)]), [-22])
        self.assertEqual(last(calls + [("set_station", 0, 1, 1), ("number_probability", 0, 0)]), [0, 1, 3])

    def test_a_utilization_of_1_and_more(self):
        for rate, answer in [(5, [0, 1, 6]), (6, [-33]), (7, [-33])]:
            with self.subTest(rate=rate):
                self.assertEqual(last(alone(1, 1, 6, [rate]) + [("number_probability", 0, 0)]), answer)


class OneOfSeveralStations(unittest.TestCase):
    # The utilizations are 1/2, 2/3 and 3/5.
    APART = [
        ("create", 3, 1), ("set_arrival", 0, 0, 3), ("set_service", 0, 0, 6),
        ("set_arrival", 1, 0, 2), ("set_service", 1, 0, 3), ("set_arrival", 2, 0, 3), ("set_service", 2, 0, 5),
    ]

    def test_each_has_its_own(self):
        for station, used in enumerate([Fraction(1, 2), Fraction(2, 3), Fraction(3, 5)]):
            with self.subTest(station=station):
                self.assertEqual(probabilities(self.APART, station, [0, 3]), [1 - used, (1 - used) * used ** 3])

    def test_beside_a_server_for_everybody(self):
        calls = self.APART + [("set_station", 1, 2, 1), ("set_arrival", 1, 0, 100000)]
        self.assertEqual(probabilities(calls, 0, [0, 1]), [Fraction(1, 2), Fraction(1, 4)])
        self.assertEqual(probabilities(calls, 2, [0, 1]), [Fraction(2, 5), Fraction(6, 25)])
        self.assertEqual(last(calls + [("number_probability", 1, 0)]), [-33])

    def test_another_station_that_is_too_busy_spoils_it(self):
        calls = self.APART + [("set_service", 1, 0, 2)]
        for station in range(3):
            self.assertEqual(last(calls + [("number_probability", station, 0)]), [-33])

    def test_it_follows_the_changes(self):
        found = ask([("create", 1, 1), ("set_service", 0, 0, 4), ("set_arrival", 0, 0, 2),
                     ("number_probability", 0, 2), ("set_station", 0, 0, 2), ("number_probability", 0, 2),
                     ("scale_arrivals", 3, 2), ("number_probability", 0, 0)])
        # With 2 servers and the load 1/2 the weights 1, 1/2, 1/8, 1/32 and so on sum to 5/3.
        self.assertEqual([found[3], found[5], found[7]], [[0, 1, 8], [0, 3, 40], [0, 5, 11]])


class States(unittest.TestCase):
    def test_one_station(self):
        for number in (0, 1, 2, 3, 60):
            calls = alone(0, 2, 5, [6])
            with self.subTest(number=number):
                self.assertEqual(last(calls + [("state_probability", number)]),
                                 last(calls + [("number_probability", 0, number)]))

    def test_the_product_by_hand(self):
        found = ask(OneOfSeveralStations.APART + [("state_probability", 0, 0, 0), ("state_probability", 1, 0, 2)])
        # 1/2 * 1/3 * 2/5, and that times 1/2 and 9/25.
        self.assertEqual(found[-2:], [[0, 1, 15], [0, 3, 250]])

    def test_each_number_is_that_of_its_station(self):
        calls = OneOfSeveralStations.APART
        for state in [(4, 0, 0), (0, 4, 0), (0, 0, 4), (60, 0, 1), (60, 60, 60)]:
            expected = math.prod(probabilities(calls, station, [number])[0] for station, number in enumerate(state))
            with self.subTest(state=state):
                self.assertEqual(fraction_of(last(calls + [("state_probability", *state)])), expected)

    def test_a_station_to_which_nobody_comes(self):
        calls = [("create", 2, 1), ("set_service", 0, 0, 3), ("set_arrival", 0, 0, 2)]
        self.assertEqual(last(calls + [("state_probability", 1, 0)]), [0, 2, 9])
        for state in [(1, 1), (0, 60), (60, 2)]:
            self.assertEqual(last(calls + [("state_probability", *state)]), [0, 0, 1])

    def test_a_server_for_everybody_spoils_it(self):
        for station in range(3):
            calls = OneOfSeveralStations.APART + [("set_station", station, 2, 1)]
            with self.subTest(station=station):
                self.assertEqual(last(calls + [("state_probability", 0, 0, 0)]), [-33])
                self.assertEqual(last(calls + [("state_probability", 0, 0)]), [-22])
                self.assertEqual(last(calls + [("state_probability", 0, 61, 0)]), [-22])
                back = ("set_station", station, 0, 1)
                self.assertEqual(last(calls + [back, ("state_probability", 0, 0, 0)]), [0, 1, 15])

    def test_all_states_of_few_customers_and_all_others_sum_to_1(self):
        plan = Plan(2, 1, {0: 1}, {(0, 1): 1, (1, 0): 1}, {1: 1}, {0: (0, 2)}, {0: 2, 1: 3})
        states = [(first, second) for first in range(9) for second in range(9)]
        found = ask_behind(plan.calls(), [("state_probability", *state) for state in states])
        left = [sum(probabilities(plan.calls(), station, range(9))) for station in (0, 1)]
        self.assertEqual(sum(fraction_of(answer) for answer in found), left[0] * left[1])


class DrawnNetworks(unittest.TestCase):
    NUMBERS = [0, 1, 2, 3, 4, 7, 8, 19, 20, 21, 59, 60]

    def test_number_probabilities(self):
        seen = 0
        for at, plan in enumerate(drawn_plans(48)):
            questions = [("number_probability", station, number)
                         for station in range(plan.size[0]) for number in self.NUMBERS]
            found = ask_behind(plan.calls(), questions)
            for (name, station, number), answer in zip(questions, found):
                with self.subTest(at=at, station=station, number=number):
                    if plan.is_stable() and plan.kind(station) != 2:
                        seen += 1
                        self.assertEqual(fraction_of(answer), plan.number_probability(station, number))
                    else:
                        self.assertEqual(answer, [-33])
        self.assertGreater(seen, 200)

    def test_state_probabilities(self):
        seen = 0
        for at, plan in enumerate(drawn_plans(48, kinds=(0, 1, 0, 3))):
            drawn = Drawn(at)
            stations = range(plan.size[0])
            states = [[drawn.below(4) for station in stations], [drawn.below(61) for station in stations],
                      [plan.servers(station) for station in stations],
                      [plan.servers(station) + 1 for station in stations]]
            found = ask_behind(plan.calls(), [("state_probability", *state) for state in states])
            for state, answer in zip(states, found):
                with self.subTest(at=at, state=state):
                    if plan.is_stable():
                        seen += 1
                        self.assertEqual(fraction_of(answer), math.prod(
                            plan.number_probability(station, number) for station, number in enumerate(state)))
                    else:
                        self.assertEqual(answer, [-33])
        self.assertGreater(seen, 60)

    def test_they_fit_the_utilizations(self):
        for at, plan in enumerate(drawn_plans(24, kinds=(1, 3))):
            found = ask(plan.calls() + [("utilizations",), ("state_probability", *[0] * plan.size[0])])
            if plan.is_stable():
                with self.subTest(at=at):
                    self.assertEqual(fraction_of(found[-1]), math.prod(1 - used for used in fractions_of(found[-2])))


if __name__ == "__main__":
    unittest.main()
