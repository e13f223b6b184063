"""The calls 8 to 12: probabilities, whether a network is open, traffic and visits."""

import math
import unittest
from fractions import Fraction

from helper import PLACES, SAMPLE, Plan, ask, drawn_plan, fractions_of, last


class Probabilities(unittest.TestCase):
    def test_lowest_terms(self):
        calls = [("create", 2, 2), ("set_route", 0, 1, 1, 0, 6), ("set_route", 0, 1, 0, 1, 4),
                 ("set_leaving", 0, 1, 2)]
        questions = [("route_probability", 0, 1, *other) for other in PLACES]
        self.assertEqual(ask(calls + questions)[4:], [[0, 0, 1], [0, 1, 2], [0, 1, 3], [0, 0, 1]])
        self.assertEqual(last(calls + [("leave_probability", 0, 1)]), [0, 1, 6])

    def test_zero_and_one(self):
        for weight in (1, 2, 1000):
            leaving = [("create", 2, 1), ("set_leaving", 0, 0, weight)]
            going = [("create", 2, 1), ("set_route", 0, 0, 1, 0, weight)]
            questions = [("leave_probability", 0, 0), ("route_probability", 0, 0, 1, 0)]
            with self.subTest(weight=weight):
                self.assertEqual(ask(leaving + questions)[2:], [[0, 1, 1], [0, 0, 1]])
                self.assertEqual(ask(going + questions)[2:], [[0, 0, 1], [0, 1, 1]])

    def test_of_a_place_to_itself(self):
        calls = [("create", 1, 1), ("set_route", 0, 0, 0, 0, 9), ("set_leaving", 0, 0, 3),
                 ("route_probability", 0, 0, 0, 0), ("leave_probability", 0, 0)]
        self.assertEqual(ask(calls)[3:], [[0, 3, 4], [0, 1, 4]])

    def test_of_a_place_all_of_whose_weights_are_0(self):
        for setting in ([], [("set_route", 0, 0, 1, 0, 5), ("set_route", 0, 0, 1, 0, 0)],
                        [("set_leaving", 0, 0, 5), ("set_leaving", 0, 0, 0)]):
            calls = [("create", 2, 1)] + setting
            with self.subTest(setting=setting):
                self.assertEqual(last(calls + [("leave_probability", 0, 0)]), [0, 1, 1])
                for station in (0, 1):
                    question = ("route_probability", 0, 0, station, 0)
                    self.assertEqual(last(calls + [question]), [0, 0, 1])

    def test_they_go_from_the_first_place_to_the_second(self):
        calls = [("create", 2, 2), ("set_route", 0, 0, 1, 1, 1), ("set_leaving", 0, 0, 2),
                 ("route_probability", 0, 0, 1, 1), ("route_probability", 1, 1, 0, 0)]
        self.assertEqual(ask(calls)[3:], [[0, 1, 3], [0, 0, 1]])

    def test_the_probabilities_of_a_place_sum_to_1(self):
        places = [(station, number) for number in range(3) for station in range(5)]
        calls = [("create", 5, 3), ("set_leaving", 3, 2, 1000)]
        calls += [("set_route", 3, 2, *place, 7 * number + 3) for number, place in enumerate(places)]
        calls += [("route_probability", 3, 2, *place) for place in places]
        found = ask(calls + [("leave_probability", 3, 2)])[17:]
        self.assertEqual([answer[0] for answer in found], [0] * 16)
        self.assertEqual(sum(Fraction(top, bottom) for zero, top, bottom in found), 1)
        for zero, top, bottom in found:
            self.assertEqual(math.gcd(top, bottom), 1)


class IsOpen(unittest.TestCase):
    def opened(self, *calls):
        """Whether it is open, where traffic and visits must be of one mind."""
        found = ask(list(calls) + [("is_open",), ("traffic",), ("visits", 0, 0)])[-3:]
        self.assertIn(found[0], ([0], [1]))
        for answer in found[1:]:
            self.assertEqual(answer == [-33], found[0] == [0])
        return found[0][0]

    def test_a_new_network_is_open(self):
        self.assertEqual(self.opened(("create", 1, 1)), 1)
        self.assertEqual(self.opened(("create", 5, 3)), 1)

    def test_a_place_that_leads_to_itself_alone(self):
        alone = [("create", 2, 1), ("set_route", 1, 0, 1, 0, 1)]
        self.assertEqual(self.opened(*alone), 0)
        self.assertEqual(self.opened(*alone, ("set_leaving", 1, 0, 1)), 1)
        self.assertEqual(self.opened(*alone, ("set_route", 1, 0, 0, 0, 1)), 1)
        self.assertEqual(self.opened(*alone, ("set_route", 1, 0, 1, 0, 0)), 1)
        self.assertEqual(self.opened(*alone, ("clear_routes", 1, 0)), 1)

    def test_a_closed_loop(self):
        loop = [("create", 3, 1), ("set_route", 0, 0, 1, 0, 1), ("set_route", 1, 0, 2, 0, 1),
                ("set_route", 2, 0, 0, 0, 1000)]
        self.assertEqual(self.opened(*loop), 0)
        for station in range(3):
            with self.subTest(station=station):
                self.assertEqual(self.opened(*loop, ("set_leaving", station, 0, 1)), 1)

    def test_a_loop_that_can_be_left_to_another_place(self):
        loop = [("create", 3, 1), ("set_route", 0, 0, 1, 0, 1), ("set_route", 1, 0, 0, 0, 1)]
        self.assertEqual(self.opened(*loop), 0)
        self.assertEqual(self.opened(*loop, ("set_route", 0, 0, 2, 0, 1)), 1)
        self.assertEqual(self.opened(*loop, ("set_route", 2, 0, 0, 0, 1)), 0)

    def test_a_closed_loop_counts_though_nobody_comes_there(self):
        loop = [("create", 3, 1), ("set_arrival", 0, 0, 5), ("set_leaving", 0, 0, 1),
                ("set_route", 1, 0, 2, 0, 1), ("set_route", 2, 0, 1, 0, 1)]
        self.assertEqual(self.opened(*loop), 0)

    def test_a_closed_loop_beside_a_way_out(self):
        calls = [("create", 2, 1), ("set_leaving", 0, 0, 1000), ("set_route", 0, 0, 1, 0, 1),
                 ("set_route", 1, 0, 1, 0, 1)]
        self.assertEqual(self.opened(*calls), 0)

    def test_a_loop_through_several_classes(self):
        loop = [("create", 2, 2), ("set_route", 0, 0, 1, 1, 1), ("set_route", 1, 1, 0, 1, 1),
                ("set_route", 0, 1, 1, 0, 1), ("set_route", 1, 0, 0, 0, 1)]
        self.assertEqual(self.opened(*loop), 0)
        for place in PLACES:
            with self.subTest(place=place):
                self.assertEqual(self.opened(*loop, ("set_leaving", *place, 1)), 1)

    def test_one_class_may_be_closed_where_another_is_not(self):
        calls = [("create", 1, 2), ("set_route", 0, 1, 0, 1, 1)]
        self.assertEqual(self.opened(*calls), 0)
        self.assertEqual(self.opened(*calls, ("set_route", 0, 1, 0, 0, 1)), 1)

    def test_long_ways_out_in_both_directions(self):
        places = [(station, number) for number in range(3) for station in range(5)]
        for order in (places, places[::-1]):
            calls = [("create", 5, 3)]
            calls += [("set_route", *place, *other, 1) for place, other in zip(order, order[1:])]
            with self.subTest(first=order[0]):
                self.assertEqual(self.opened(*calls), 1)
                closing = ("set_route", *order[-1], *order[0], 1)
                self.assertEqual(self.opened(*calls, closing), 0)
                self.assertEqual(self.opened(*calls, closing, ("set_leaving", *order[7], 1)), 1)


SIZES = [(1, 1, 2), (2, 1, 4), (1, 3, 6), (2, 2, 8), (3, 2, 12), (5, 1, 12), (4, 3, 25), (5, 3, 25)]


class Rates(unittest.TestCase):
    def hold(self, plan, sources, rates):
        """The equations, and what leaves against what comes."""
        count = len(plan.places)
        for place in range(count):
            coming = sum(rates[start] * plan.going(start, place) for start in range(count))
            self.assertEqual(rates[place], sources.get(place, 0) + coming)
            self.assertGreaterEqual(rates[place], 0)
        departures = sum(rates[place] * plan.going_out(place) for place in range(count))
        self.assertEqual(departures, sum(sources.values()))

    def test_the_equations_hold_in_networks_of_many_sizes(self):
        seen = {True: 0, False: 0}
        for seed in range(240):
            plan = drawn_plan(seed, *SIZES[seed % len(SIZES)])
            start = seed % len(plan.places)
            found = ask(plan.calls() + [("is_open",), ("traffic",), ("visits", *plan.places[start])])[-3:]
            opened = plan.is_open()
            seen[opened] += 1
            with self.subTest(seed=seed):
                self.assertEqual(found[0], [1 if opened else 0])
                if opened:
                    self.hold(plan, plan.arrivals, fractions_of(found[1]))
                    self.hold(plan, {start: 1}, fractions_of(found[2]))
                else:
                    self.assertEqual(found[1:], [[-33], [-33]])
        self.assertGreater(min(seen.values()), 40)

    def test_no_arrivals(self):
        plan = Plan(2, 1, {}, {(0, 1): 3, (1, 0): 4}, {1: 1})
        self.assertEqual(last(plan.calls() + [("traffic",)]), [2, 0, 1, 0, 1])

    def test_a_place_to_which_nobody_comes(self):
        plan = Plan(2, 1, {0: 7}, {(1, 0): 4}, {})
        found = ask(plan.calls() + [("traffic",), ("visits", 0, 0), ("visits", 1, 0)])[-3:]
        self.assertEqual(found, [[2, 7, 1, 0, 1], [2, 1, 1, 0, 1], [2, 1, 1, 1, 1]])

    def test_a_place_that_leads_to_itself(self):
        plan = Plan(1, 1, {0: 10}, {(0, 0): 3}, {0: 4})
        found = ask(plan.calls() + [("traffic",), ("visits", 0, 0)])[-2:]
        self.assertEqual(found, [[1, 35, 2], [1, 7, 4]])

    def test_places_are_ordered_by_class_and_then_by_station(self):
        calls = [("create", 2, 3)]
        calls += [("set_arrival", station, number, 10 * station + number + 1)
                  for station in range(2) for number in range(3)]
        self.assertEqual(last(calls + [("traffic",)]), [6, 1, 1, 11, 1, 2, 1, 12, 1, 3, 1, 13, 1])
        self.assertEqual(last(calls + [("visits", 1, 0)]), [6, 0, 1, 1, 1, 0, 1, 0, 1, 0, 1, 0, 1])
        self.assertEqual(last(calls + [("visits", 0, 1)]), [6, 0, 1, 0, 1, 1, 1, 0, 1, 0, 1, 0, 1])

    def test_a_network_of_two_classes_by_hand(self):
        found = ask(SAMPLE + [("traffic",), ("visits", 0, 0)])[-2:]
        # (0, 0) stays with 15/26, goes to (1, 1) with 11/26; (1, 1) goes to (0, 1) with 12/26.
        # All who come leave from (1, 1), with 14/26.
        second = Fraction(71) / Fraction(14, 26)
        first = Fraction(26, 11) * (30 + Fraction(12, 26) * second)
        self.assertEqual(fractions_of(found[0]), [first, 0, second * Fraction(12, 26), second])
        self.assertEqual(fractions_of(found[1])[3], Fraction(26, 14))

    def test_numbers_of_more_than_64_bits(self):
        routes = {(place, 0): 1000 for place in range(15)}
        routes.update({(place, place + 1): 1 for place in range(14)})
        plan = Plan(5, 3, {0: 100000}, routes, {14: 1})
        expected = [1001 ** (15 - place) for place in range(15)]
        found = ask(plan.calls() + [("traffic",), ("visits", 0, 0)])[-2:]
        self.assertEqual(fractions_of(found[0]), [100000 * rate for rate in expected])
        self.assertEqual(fractions_of(found[1]), expected)

    def test_long_denominators(self):
        weights = [997, 991, 983, 977, 971, 967, 953, 947, 941, 937, 929, 919, 911, 907]
        routes = {(place, place + 1): weight for place, weight in enumerate(weights)}
        plan = Plan(5, 3, {0: 1}, routes, {place: 1000 for place in range(15)})
        found = fractions_of(last(plan.calls() + [("traffic",)]))
        expected = [Fraction(1)]
        for weight in weights:
            expected.append(expected[-1] * Fraction(weight, weight + 1000))
        self.assertEqual(found, expected)
        self.assertGreater(found[-1].denominator, 2 ** 64)

    def test_service_rates_and_kinds_do_not_matter(self):
        calls = SAMPLE + [("set_station", 0, 2, 1), ("set_service", 0, 1, 99), ("set_station", 1, 0, 20)]
        self.assertEqual(last(calls + [("traffic",)]), last(SAMPLE + [("traffic",)]))

    def test_they_follow_the_changes(self):
        calls = [("create", 2, 1), ("set_arrival", 0, 0, 6), ("set_route", 0, 0, 1, 0, 1), ("traffic",),
                 ("scale_arrivals", 1, 2), ("traffic",), ("clear_routes", 0, 0), ("traffic",)]
        found = ask(calls)
        self.assertEqual([found[3], found[5], found[7]], [[2, 6, 1, 6, 1], [2, 3, 1, 3, 1], [2, 3, 1, 0, 1]])


if __name__ == "__main__":
    unittest.main()
