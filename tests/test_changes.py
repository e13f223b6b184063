"""The calls 0 to 7: what they change, what they answer and what they leave alone."""

import unittest

from helper import PLACES, ask, last


def read_services(calls):
    """The service rates of all places of a network of two stations and two classes."""
    return [ask(calls + [("set_service", *place, 1)])[-1][0] for place in PLACES]


def read_arrivals(calls):
    return [ask(calls + [("set_arrival", *place, 0)])[-1][0] for place in PLACES]


class Create(unittest.TestCase):
    def test_the_number_of_places(self):
        for stations in range(1, 6):
            for classes in range(1, 4):
                with self.subTest(stations=stations, classes=classes):
                    found = ask([("create", stations, classes), ("traffic",), ("is_open",)])
                    places = stations * classes
                    self.assertEqual(found, [[0], [places] + [0, 1] * places, [1]])


class Stations(unittest.TestCase):
    # Station 0 shares its server and has two service rates; station 1 has them too.
    RATES = [("create", 2, 2), ("set_station", 0, 1, 1), ("set_station", 1, 3, 1),
             ("set_service", 0, 0, 5), ("set_service", 0, 1, 6),
             ("set_service", 1, 0, 7), ("set_service", 1, 1, 8)]

    def test_a_new_station_has_the_kind_0(self):
        self.assertEqual(read_services([("create", 2, 2), ("set_service", 0, 1, 9)]), [9, 1, 9, 1])

    def test_kind_0_takes_the_rate_of_class_0_for_all_classes(self):
        self.assertEqual(read_services(self.RATES), [5, 7, 6, 8])
        self.assertEqual(read_services(self.RATES + [("set_station", 0, 0, 1)]), [5, 7, 5, 8])
        self.assertEqual(read_services(self.RATES + [("set_station", 1, 0, 20)]), [5, 7, 6, 7])

    def test_kind_0_does_so_with_three_classes(self):
        calls = [("create", 1, 3), ("set_station", 0, 2, 1), ("set_service", 0, 0, 4),
                 ("set_service", 0, 1, 5), ("set_service", 0, 2, 6), ("set_station", 0, 0, 3),
                 ("set_station", 0, 1, 1), ("set_service", 0, 2, 1), ("set_service", 0, 1, 1),
                 ("set_service", 0, 0, 1)]
        self.assertEqual(ask(calls)[-3:], [[4], [4], [4]])

    def test_other_kinds_keep_the_rates(self):
        for kind in (1, 2, 3):
            with self.subTest(kind=kind):
                self.assertEqual(read_services(self.RATES + [("set_station", 0, kind, 1)]), [5, 7, 6, 8])

    def test_a_refused_kind_0_keeps_the_rates(self):
        for servers in (0, 21):
            with self.subTest(servers=servers):
                self.assertEqual(read_services(self.RATES + [("set_station", 0, 0, servers)]), [5, 7, 6, 8])

    def test_a_service_rate_at_kind_0_is_that_of_all_classes(self):
        for number in (0, 1):
            calls = self.RATES + [("set_station", 1, 0, 2), ("set_service", 1, number, 33)]
            with self.subTest(number=number):
                self.assertEqual(last(calls), [7])
                self.assertEqual(read_services(calls), [5, 33, 6, 33])

    def test_a_service_rate_at_another_kind_is_that_of_one_class(self):
        for kind in (1, 2, 3):
            calls = self.RATES + [("set_station", 0, kind, 1), ("set_service", 0, 1, 33)]
            with self.subTest(kind=kind):
                self.assertEqual(last(calls), [6])
                self.assertEqual(read_services(calls), [5, 7, 33, 8])

    def test_behind_kind_0_the_classes_may_differ_again(self):
        calls = self.RATES + [("set_station", 0, 0, 1), ("set_station", 0, 2, 1), ("set_service", 0, 1, 9)]
        self.assertEqual(read_services(calls), [5, 7, 9, 8])


class Rates(unittest.TestCase):
    def test_the_previous_values_are_answered(self):
        for name, numbers, first in [("set_service", (1, 2), 1), ("set_arrival", (1, 2), 0),
                                     ("set_leaving", (1, 2), 0), ("set_route", (1, 2, 0, 1), 0)]:
            with self.subTest(name=name):
                calls = [("create", 3, 3), (name, *numbers, 17), (name, *numbers, 17),
                         (name, *numbers, 900), (name, *numbers, 1)]
                self.assertEqual(ask(calls), [[0], [first], [17], [17], [900]])

    def test_each_place_has_an_arrival_rate_of_its_own(self):
        calls = [("create", 2, 2)]
        calls += [("set_arrival", *place, 10 + number) for number, place in enumerate(PLACES)]
        self.assertEqual(read_arrivals(calls), [10, 11, 12, 13])

    def test_each_place_has_weights_of_its_own(self):
        pairs = [(place, other) for place in PLACES for other in PLACES]
        calls = [("create", 2, 2)]
        calls += [("set_route", *place, *other, 100 + at) for at, (place, other) in enumerate(pairs)]
        calls += [("set_leaving", *place, 200 + at) for at, place in enumerate(PLACES)]
        calls += [("set_route", *place, *other, 0) for place, other in pairs]
        calls += [("set_leaving", *place, 0) for place in PLACES]
        self.assertEqual([answer[0] for answer in ask(calls)[21:]],
                         list(range(100, 116)) + list(range(200, 204)))


class ClearRoutes(unittest.TestCase):
    WEIGHTS = [("create", 2, 2), ("set_route", 0, 1, 0, 1, 1000), ("set_route", 0, 1, 1, 0, 3),
               ("set_leaving", 0, 1, 20), ("set_route", 1, 0, 0, 1, 7), ("set_leaving", 1, 0, 5)]

    def test_the_sum_before_is_answered(self):
        found = ask(self.WEIGHTS + [("clear_routes", 0, 1), ("clear_routes", 0, 1),
                                    ("clear_routes", 1, 1), ("clear_routes", 1, 0)])
        self.assertEqual(found[-4:], [[1023], [0], [0], [12]])

    def test_all_weights_of_the_place_are_0_behind_it(self):
        found = ask(self.WEIGHTS + [("clear_routes", 0, 1), ("set_route", 0, 1, 0, 1, 1),
                                    ("set_route", 0, 1, 1, 0, 1), ("set_leaving", 0, 1, 1)])
        self.assertEqual(found[-3:], [[0], [0], [0]])

    def test_the_weights_of_other_places_stay(self):
        found = ask(self.WEIGHTS + [("clear_routes", 0, 1), ("set_route", 1, 0, 0, 1, 1),
                                    ("set_leaving", 1, 0, 1)])
        self.assertEqual(found[-2:], [[7], [5]])

    def test_customers_always_leave_behind_it(self):
        found = ask(self.WEIGHTS + [("clear_routes", 0, 1), ("leave_probability", 0, 1),
                                    ("route_probability", 0, 1, 0, 1)])
        self.assertEqual(found[-2:], [[0, 1, 1], [0, 0, 1]])

    def test_the_greatest_sum(self):
        places = [(station, number) for number in range(3) for station in range(5)]
        calls = [("create", 5, 3), ("set_leaving", 4, 2, 1000)]
        calls += [("set_route", 4, 2, *place, 1000) for place in places]
        self.assertEqual(last(calls + [("clear_routes", 4, 2)]), [16000])


class ScaleArrivals(unittest.TestCase):
    def scaled(self, arrivals, num, den):
        """The answer and all rates behind it."""
        calls = [("create", 2, 2)]
        calls += [("set_arrival", *place, rate) for place, rate in zip(PLACES, arrivals)]
        calls += [("scale_arrivals", num, den)]
        return (last(calls), read_arrivals(calls))

    def test_all_rates_are_multiplied(self):
        self.assertEqual(self.scaled([2, 4, 6, 0], 3, 2), ([0], [3, 6, 9, 0]))
        self.assertEqual(self.scaled([1, 2, 3, 4], 1000, 1), ([0], [1000, 2000, 3000, 4000]))
        self.assertEqual(self.scaled([1000, 2000, 0, 100000], 1, 1000), ([0], [1, 2, 0, 100]))
        self.assertEqual(self.scaled([7, 8, 9, 10], 6, 6), ([0], [7, 8, 9, 10]))

    def test_a_factor_not_in_lowest_terms(self):
        self.assertEqual(self.scaled([1, 2, 3, 4], 1000, 500), ([0], [2, 4, 6, 8]))

    def test_a_factor_of_0(self):
        for den in (1, 7, 1000):
            with self.subTest(den=den):
                self.assertEqual(self.scaled([1, 2, 3, 100000], 0, den), ([0], [0, 0, 0, 0]))

    def test_rates_of_0_stay_whole(self):
        self.assertEqual(self.scaled([0, 0, 0, 0], 1, 1000), ([0], [0, 0, 0, 0]))

    def test_a_rate_that_would_not_be_whole(self):
        for place in range(4):
            rates = [2, 4, 6, 8]
            rates[place] = 5
            with self.subTest(place=place):
                self.assertEqual(self.scaled(rates, 1, 2), ([-33], rates))

    def test_a_rate_that_would_be_too_great(self):
        for place in range(4):
            rates = [1, 1, 1, 1]
            rates[place] = 101
            with self.subTest(place=place):
                self.assertEqual(self.scaled(rates, 1000, 1), ([-22], rates))

    def test_the_greatest_rate(self):
        self.assertEqual(self.scaled([100, 0, 0, 0], 1000, 1), ([0], [100000, 0, 0, 0]))
        self.assertEqual(self.scaled([100000, 0, 0, 0], 1, 1), ([0], [100000, 0, 0, 0]))
        self.assertEqual(self.scaled([50000, 0, 0, 0], 2, 1), ([0], [100000, 0, 0, 0]))
        self.assertEqual(self.scaled([50001, 0, 0, 0], 2, 1), ([-22], [50001, 0, 0, 0]))

    def test_a_rate_is_rounded_down_before_it_is_too_great(self):
        self.assertEqual(self.scaled([66667, 0, 0, 0], 3, 2), ([-33], [66667, 0, 0, 0]))
        self.assertEqual(self.scaled([66668, 0, 0, 0], 3, 2), ([-22], [66668, 0, 0, 0]))
        self.assertEqual(self.scaled([66669, 0, 0, 0], 3, 2), ([-22], [66669, 0, 0, 0]))

    def test_too_great_comes_ahead_of_not_whole(self):
        for rates in ([1, 0, 0, 100000], [100000, 0, 0, 1], [0, 1, 100000, 1]):
            with self.subTest(rates=rates):
                self.assertEqual(self.scaled(rates, 3, 2), ([-22], rates))

    def test_a_factor_out_of_range_comes_ahead_of_not_whole(self):
        for num, den in [(1001, 1000), (1, 0), (0, 0), (1, 1001), (1001, 0), (0, 1001)]:
            with self.subTest(num=num, den=den):
                self.assertEqual(self.scaled([1, 2, 3, 4], num, den), ([-22], [1, 2, 3, 4]))


if __name__ == "__main__":
    unittest.main()
