"""The calls 13 to 15, 21, 24 and 25: utilizations, whether a network is stable, departures and growth."""

import unittest
from fractions import Fraction

from helper import Plan, ask, drawn_plans, fraction_of, fractions_of, last

# Three stations of one class side by side, with the utilizations 1/2, 2/3 and 3/5.
APART = [
    ("create", 3, 1), ("set_arrival", 0, 0, 3), ("set_service", 0, 0, 6),
    ("set_arrival", 1, 0, 2), ("set_service", 1, 0, 3), ("set_arrival", 2, 0, 3), ("set_service", 2, 0, 5),
]


def used(calls):
    return fractions_of(last(calls + [("utilizations",)]))


def alone(rate, service, *changes):
    """One station of one class."""
    return [("create", 1, 1), ("set_arrival", 0, 0, rate), ("set_service", 0, 0, service), *changes]


class Utilizations(unittest.TestCase):
    def test_each_station_by_itself(self):
        self.assertEqual(last(APART + [("utilizations",)]), [3, 1, 2, 2, 3, 3, 5])

    def test_a_new_network(self):
        for stations in range(1, 6):
            self.assertEqual(last([("create", stations, 3), ("utilizations",)]), [stations] + [0, 1] * stations)

    def test_the_load_is_divided_by_the_number_of_servers(self):
        for servers in (1, 2, 3, 19, 20):
            with self.subTest(servers=servers):
                self.assertEqual(used(alone(7, 5, ("set_station", 0, 0, servers))), [Fraction(7, 5 * servers)])

    def test_another_kind_has_one_server(self):
        for kind in (1, 3):
            with self.subTest(kind=kind):
                calls = alone(7, 5, ("set_station", 0, 0, 20), ("set_station", 0, kind, 1))
                self.assertEqual(used(calls), [Fraction(7, 5)])

    def test_a_server_for_everybody_is_never_used_up(self):
        for rate in (0, 1, 7, 100000):
            with self.subTest(rate=rate):
                self.assertEqual(used(alone(rate, 1, ("set_station", 0, 2, 1))), [0])

    def test_kind_2_does_not_count_where_another_kind_follows(self):
        calls = alone(7, 5, ("set_station", 0, 2, 1), ("set_station", 0, 3, 1))
        self.assertEqual(used(calls), [Fraction(7, 5)])

    def test_classes_with_several_service_rates(self):
        for kind in (1, 3):
            calls = [("create", 1, 3), ("set_station", 0, kind, 1)]
            calls += [("set_arrival", 0, number, 1) for number in range(3)]
            calls += [("set_service", 0, number, service) for number, service in enumerate((2, 3, 7))]
            with self.subTest(kind=kind):
                self.assertEqual(used(calls), [Fraction(1, 2) + Fraction(1, 3) + Fraction(1, 7)])

    def test_classes_at_kind_0(self):
        calls = [("create", 1, 3), ("set_station", 0, 0, 4), ("set_service", 0, 2, 3)]
        calls += [("set_arrival", 0, number, rate) for number, rate in enumerate((1, 0, 4))]
        self.assertEqual(used(calls), [Fraction(5, 12)])

    def test_the_ends_of_the_ranges(self):
        self.assertEqual(used(alone(100000, 1)), [100000])
        self.assertEqual(used(alone(1, 100000, ("set_station", 0, 0, 20))), [Fraction(1, 2000000)])
        self.assertEqual(used(alone(0, 100000)), [0])
        self.assertEqual(used(alone(100000, 100000)), [1])

    def test_a_network_that_is_not_open(self):
        closed = APART + [("set_route", 2, 0, 2, 0, 1)]
        self.assertEqual(last(closed + [("utilizations",)]), [-33])
        self.assertEqual(last(closed + [("set_leaving", 2, 0, 2), ("utilizations",)]), [3, 1, 2, 2, 3, 9, 10])

    def test_a_network_that_is_not_stable(self):
        self.assertEqual(used(APART + [("set_service", 1, 0, 1)]), [Fraction(1, 2), 2, Fraction(3, 5)])


class IsStable(unittest.TestCase):
    def stable(self, calls):
        """What is answered, where the summary has to be of the same mind."""
        found = ask(calls + [("is_stable",), ("is_open",), ("summary",)])[len(calls):]
        self.assertEqual(found[2][2:], [found[1][0], found[0][0]])
        self.assertEqual(len(found[0]), 1)
        return found[0][0]

    def test_a_new_network(self):
        self.assertEqual(self.stable([("create", 5, 3)]), 1)

    def test_a_utilization_of_less_than_1_exactly_1_and_more_than_1(self):
        for rate, stable in [(99999, 1), (100000, 0)]:
            self.assertEqual(self.stable(alone(rate, 100000)), stable)
        for rate, stable in [(0, 1), (5, 1), (6, 0), (7, 0), (100000, 0)]:
            for kind in (0, 1, 3):
                with self.subTest(rate=rate, kind=kind):
                    self.assertEqual(self.stable(alone(rate, 6, ("set_station", 0, kind, 1))), stable)

    def test_several_servers(self):
        for rate, stable in [(59, 1), (60, 0), (61, 0)]:
            with self.subTest(rate=rate):
                self.assertEqual(self.stable(alone(rate, 3, ("set_station", 0, 0, 20))), stable)

    def test_each_station_has_to_be(self):
        self.assertEqual(self.stable(APART), 1)
        for station in range(3):
            with self.subTest(station=station):
                self.assertEqual(self.stable(APART + [("set_service", station, 0, 1)]), 0)
                changes = [("set_service", station, 0, 1), ("set_station", station, 2, 1)]
                self.assertEqual(self.stable(APART + changes), 1)

    def test_a_network_that_is_not_open(self):
        # Nobody comes to the place that can't be left, so no utilization is too great.
        self.assertEqual(self.stable(APART + [("set_arrival", 2, 0, 0), ("set_route", 2, 0, 2, 0, 1)]), 0)
        self.assertEqual(self.stable([("create", 1, 1), ("set_route", 0, 0, 0, 0, 1)]), 0)

    def test_a_closed_network_of_servers_for_everybody(self):
        closed = [("create", 1, 1), ("set_station", 0, 2, 1), ("set_route", 0, 0, 0, 0, 1)]
        self.assertEqual(self.stable(closed), 0)
        self.assertEqual(self.stable(closed + [("clear_routes", 0, 0)]), 1)


class Bottleneck(unittest.TestCase):
    def test_the_greatest_utilization_at_each_station(self):
        self.assertEqual(last(APART + [("bottleneck",)]), [1, 2, 3])
        self.assertEqual(last(APART + [("set_service", 0, 0, 4), ("bottleneck",)]), [0, 3, 4])
        self.assertEqual(last(APART + [("set_service", 2, 0, 4), ("bottleneck",)]), [2, 3, 4])

    def test_the_smallest_number_in_a_tie(self):
        tie = [("create", 5, 1)]
        tie += [("set_arrival", station, 0, rate) for station, rate in enumerate((1, 4, 2, 6, 3))]
        tie += [("set_service", station, 0, rate) for station, rate in enumerate((9, 6, 3, 9, 5))]
        self.assertEqual(last(tie + [("bottleneck",)]), [1, 2, 3])
        self.assertEqual(last(tie + [("set_arrival", 1, 0, 0), ("bottleneck",)]), [2, 2, 3])
        self.assertEqual(last(tie + [("set_station", 1, 2, 1), ("set_arrival", 2, 0, 0), ("bottleneck",)]),
                         [3, 2, 3])
        self.assertEqual(last(tie + [("set_service", 0, 0, 1), ("bottleneck",)]), [0, 1, 1])

    def test_all_utilizations_0(self):
        self.assertEqual(last([("create", 4, 2), ("bottleneck",)]), [0, 0, 1])
        busy = [("create", 2, 1), ("set_arrival", 0, 0, 9), ("set_arrival", 1, 0, 9)]
        everybody = [("set_station", 0, 2, 1), ("set_station", 1, 2, 1)]
        self.assertEqual(last(busy + everybody + [("bottleneck",)]), [0, 0, 1])

    def test_a_station_of_kind_2_is_none(self):
        self.assertEqual(last(APART + [("set_station", 1, 2, 1), ("bottleneck",)]), [2, 3, 5])

    def test_utilizations_of_1_and_more(self):
        self.assertEqual(last(APART + [("set_service", 0, 0, 3), ("bottleneck",)]), [0, 1, 1])
        self.assertEqual(last(APART + [("set_service", 2, 0, 2), ("bottleneck",)]), [2, 3, 2])

    def test_a_network_that_is_not_open(self):
        self.assertEqual(last(APART + [("set_route", 0, 0, 0, 0, 1), ("bottleneck",)]), [-33])


class Growth(unittest.TestCase):
    def test_the_reciprocal_of_the_greatest_utilization(self):
        self.assertEqual(last(APART + [("growth",)]), [0, 3, 2])
        self.assertEqual(last(APART + [("set_service", 2, 0, 1000), ("set_service", 1, 0, 7), ("growth",)]),
                         [0, 2, 1])

    def test_utilizations_of_1_and_more(self):
        self.assertEqual(last(alone(6, 6, ("growth",))), [0, 1, 1])
        self.assertEqual(last(alone(9, 6, ("growth",))), [0, 2, 3])
        self.assertEqual(last(alone(100000, 1, ("growth",))), [0, 1, 100000])

    def test_all_utilizations_0(self):
        self.assertEqual(last([("create", 2, 2), ("growth",)]), [-33])
        self.assertEqual(last(alone(5, 1, ("set_station", 0, 2, 1), ("growth",))), [-33])

    def test_a_network_that_is_not_open(self):
        self.assertEqual(last(alone(5, 9, ("set_route", 0, 0, 0, 0, 1), ("growth",))), [-33])
        self.assertEqual(last(alone(5, 9, ("set_route", 0, 0, 0, 0, 1), ("set_leaving", 0, 0, 1), ("growth",))),
                         [0, 9, 10])

    def test_several_servers(self):
        self.assertEqual(last(alone(7, 5, ("set_station", 0, 0, 20), ("growth",))), [0, 100, 7])


class Departures(unittest.TestCase):
    def test_all_who_come_leave_where_there_are_no_routes(self):
        self.assertEqual(last(APART + [("departures",)]), [3, 3, 1, 2, 1, 3, 1])
        self.assertEqual(last([("create", 1, 2), ("departures",)]), [2, 0, 1, 0, 1])

    def test_a_part_leaves(self):
        calls = [("create", 2, 1), ("set_arrival", 0, 0, 5), ("set_route", 0, 0, 1, 0, 2), ("set_leaving", 0, 0, 1)]
        self.assertEqual(last(calls + [("departures",)]), [2, 5, 3, 10, 3])

    def test_places_are_ordered_by_class_and_then_by_station(self):
        calls = [("create", 2, 2), ("set_arrival", 1, 0, 5), ("set_arrival", 0, 1, 7)]
        self.assertEqual(last(calls + [("departures",)]), [4, 0, 1, 5, 1, 7, 1, 0, 1])

    def test_a_network_that_is_not_stable(self):
        for rate in (6, 7, 100000):
            self.assertEqual(last(alone(rate, 6, ("departures",))), [1, rate, 1])

    def test_a_network_that_is_not_open(self):
        self.assertEqual(last(alone(5, 9, ("set_route", 0, 0, 0, 0, 1), ("departures",))), [-33])


class Summary(unittest.TestCase):
    def test_the_numbers_of_stations_and_classes(self):
        for stations in range(1, 6):
            for classes in range(1, 4):
                self.assertEqual(last([("create", stations, classes), ("summary",)]), [stations, classes, 1, 1])

    def test_open_and_stable_or_not(self):
        self.assertEqual(last(alone(5, 6, ("summary",))), [1, 1, 1, 1])
        self.assertEqual(last(alone(6, 6, ("summary",))), [1, 1, 1, 0])
        self.assertEqual(last(alone(0, 6, ("set_route", 0, 0, 0, 0, 1), ("summary",))), [1, 1, 0, 0])


class DrawnNetworks(unittest.TestCase):
    def test_they_answer_what_the_words_of_the_document_come_to(self):
        seen = {True: 0, False: 0}
        for number, plan in enumerate(drawn_plans(80)):
            values = plan.utilizations()
            station = values.index(max(values))
            calls = plan.calls()
            found = ask(calls + [(name,) for name in (
                "utilizations", "is_stable", "bottleneck", "departures", "growth", "summary")])[len(calls):]
            seen[plan.is_stable()] += 1
            stable = 1 if plan.is_stable() else 0
            with self.subTest(number=number):
                self.assertEqual(fractions_of(found[0]), values)
                self.assertEqual(found[1], [stable])
                self.assertEqual(found[2][0], station)
                self.assertEqual(fractions_of([1, *found[2][1:]]), [values[station]])
                self.assertEqual(fractions_of(found[3]), [
                    rate * plan.going_out(place) for place, rate in enumerate(plan.traffic())])
                self.assertEqual(found[4] if max(values) == 0 else fraction_of(found[4]),
                                 [-33] if max(values) == 0 else 1 / max(values))
                self.assertEqual(found[5], [*plan.size, 1, stable])
        self.assertGreater(min(seen.values()), 10)

    def test_they_follow_the_changes(self):
        plan = Plan(2, 1, {0: 6}, {(0, 1): 1}, {0: 1}, {1: (0, 2)}, {0: 9, 1: 2})
        found = ask(plan.calls() + [("utilizations",), ("scale_arrivals", 3, 2), ("utilizations",),
                                    ("clear_routes", 0, 0), ("utilizations",)])
        self.assertEqual([found[-5], found[-3], found[-1]], [[2, 2, 3, 3, 4], [2, 1, 1, 9, 8], [2, 1, 1, 0, 1]])


if __name__ == "__main__":
    unittest.main()
