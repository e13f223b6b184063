"""Both ends of each range, what lies outside, and which of two errors is answered."""

import unittest

from helper import FAR_OUT, SAMPLE, ask, last, look

STATION = ([0, 1, 2, 3, 4], [5, 6, FAR_OUT], -2)
CLASS = ([0, 1, 2], [3, 4, FAR_OUT], -2)
WEIGHT = ([0, 1, 999, 1000], [1001, FAR_OUT], -22)

# For each argument of each call the taken values, the refused ones and the code of the refusal,
# in a network of five stations and three classes that is open.
ARGUMENTS = {
    "create": [([1, 2, 3, 4, 5], [0, 6, FAR_OUT], -22), ([1, 2, 3], [0, 4, FAR_OUT], -22)],
    "set_station": [STATION, ([0, 1, 2, 3], [4, 5, FAR_OUT], -22), ([1], [0, 21, FAR_OUT], -22)],
    "set_service": [STATION, CLASS, ([1, 2, 99999, 100000], [0, 100001, FAR_OUT], -22)],
    "set_arrival": [STATION, CLASS, ([0, 1, 99999, 100000], [100001, FAR_OUT], -22)],
    "set_route": [STATION, CLASS, STATION, CLASS, WEIGHT],
    "set_leaving": [STATION, CLASS, WEIGHT],
    "clear_routes": [STATION, CLASS],
    "scale_arrivals": [([0, 1, 999, 1000], [1001, FAR_OUT], -22),
                       ([1, 2, 999, 1000], [0, 1001, FAR_OUT], -22)],
    "route_probability": [STATION, CLASS, STATION, CLASS],
    "leave_probability": [STATION, CLASS],
    "visits": [STATION, CLASS],
}


def with_one(name, position, value):
    """The call with the first taken value everywhere, but for one place."""
    numbers = [taken[0] for taken, refused, code in ARGUMENTS[name]]
    numbers[position] = value
    return (name, *numbers)


class Ranges(unittest.TestCase):
    def test_all_values_within_a_range_are_taken(self):
        for name, arguments in ARGUMENTS.items():
            for position, (taken, refused, code) in enumerate(arguments):
                for value in taken:
                    call = with_one(name, position, value)
                    with self.subTest(call=call):
                        self.assertGreaterEqual(last([("create", 5, 3), call])[0], 0)

    def test_each_value_outside_of_a_range_is_refused(self):
        for name, arguments in ARGUMENTS.items():
            for position, (taken, refused, code) in enumerate(arguments):
                for value in refused:
                    call = with_one(name, position, value)
                    with self.subTest(call=call):
                        self.assertEqual(last([("create", 5, 3), call]), [code])

    def test_of_two_errors_the_one_that_is_listed_first_is_answered(self):
        for name, arguments in ARGUMENTS.items():
            for first, (first_taken, first_refused, first_code) in enumerate(arguments):
                for second, (taken, refused, code) in enumerate(arguments[:first]):
                    numbers = list(with_one(name, first, first_refused[0])[1:])
                    numbers[second] = refused[-1]
                    expected = -2 if -2 in (code, first_code) else -22
                    with self.subTest(name=name, numbers=numbers):
                        self.assertEqual(last([("create", 5, 3), (name, *numbers)]), [expected])

    def test_all_errors_at_once(self):
        for name, arguments in ARGUMENTS.items():
            call = (name, *[refused[0] for taken, refused, code in arguments])
            with self.subTest(call=call):
                self.assertEqual(last([("create", 5, 3), call]), [arguments[0][2]])

    def test_stations_and_classes_of_a_smaller_network(self):
        calls = [("create", 1, 3), ("set_arrival", 0, 2, 1), ("set_arrival", 1, 0, 1),
                 ("create", 3, 1), ("set_arrival", 2, 0, 1), ("set_arrival", 0, 1, 1),
                 ("set_station", 2, 0, 1), ("set_station", 3, 0, 1)]
        self.assertEqual(ask(calls), [[0], [0], [-2], [0], [0], [-2], [0], [-2]])

    def test_the_servers_of_each_kind(self):
        for kind in range(4):
            for servers in (0, 1, 2, 19, 20, 21, FAR_OUT):
                taken = servers == 1 or (kind == 0 and 1 <= servers <= 20)
                with self.subTest(kind=kind, servers=servers):
                    self.assertEqual(last([("create", 1, 1), ("set_station", 0, kind, servers)]),
                                     [0 if taken else -22])

    def test_the_servers_are_held_against_the_new_kind(self):
        calls = [("create", 1, 1), ("set_station", 0, 0, 20), ("set_station", 0, 3, 20),
                 ("set_station", 0, 3, 1), ("set_station", 0, 0, 20)]
        self.assertEqual(ask(calls), [[0], [0], [-22], [0], [0]])

    def test_no_such_station_comes_ahead_of_a_network_that_is_not_open(self):
        closed = [("create", 1, 1), ("set_route", 0, 0, 0, 0, 1)]
        for numbers, code in [((0, 0), -33), ((1, 0), -2), ((0, 1), -2), ((FAR_OUT, FAR_OUT), -2)]:
            with self.subTest(numbers=numbers):
                self.assertEqual(last(closed + [("visits", *numbers)]), [code])


# Refused calls of each kind and for each reason, in the network that SAMPLE makes.
REFUSED = [
    (("create", 0, 1), -22), (("create", 2, 4), -22),
    (("set_station", 2, 0, 1), -2), (("set_station", 0, 4, 1), -22),
    (("set_station", 0, 0, 0), -22), (("set_station", 0, 0, 21), -22),
    (("set_station", 1, 1, 2), -22), (("set_station", 1, 3, 0), -22),
    (("set_service", 2, 0, 9), -2), (("set_service", 0, 2, 9), -2),
    (("set_service", 0, 0, 0), -22), (("set_service", 1, 1, 100001), -22),
    (("set_arrival", 0, 2, 9), -2), (("set_arrival", 0, 0, 100001), -22),
    (("set_route", 2, 0, 0, 0, 9), -2), (("set_route", 0, 2, 0, 0, 9), -2),
    (("set_route", 0, 0, 2, 0, 9), -2), (("set_route", 0, 0, 0, 2, 9), -2),
    (("set_route", 0, 0, 1, 1, 1001), -22),
    (("set_leaving", 2, 0, 9), -2), (("set_leaving", 1, 1, 1001), -22),
    (("clear_routes", 2, 0), -2), (("clear_routes", 0, 2), -2),
    (("scale_arrivals", 1001, 1), -22), (("scale_arrivals", 1, 0), -22),
    (("scale_arrivals", 1000, 0), -22), (("scale_arrivals", 1, 1001), -22),
    (("scale_arrivals", 1, 30), -33), (("scale_arrivals", 1, 41), -33),
    (("route_probability", 0, 0, 0, 2), -2), (("leave_probability", 2, 0), -2),
    (("visits", 2, 0), -2), (("visits", 0, 2), -2),
]


class Refusals(unittest.TestCase):
    def test_a_refused_call_leaves_the_network_unchanged(self):
        before = look(SAMPLE)
        for call, code in REFUSED:
            with self.subTest(call=call):
                self.assertEqual(last(SAMPLE + [call]), [code])
                self.assertEqual(look(SAMPLE + [call]), before)

    def test_a_question_leaves_the_network_unchanged(self):
        questions = [("route_probability", 0, 0, 1, 1), ("leave_probability", 1, 1),
                     ("is_open",), ("traffic",), ("visits", 0, 1)]
        self.assertEqual(look(SAMPLE + questions), look(SAMPLE))

    def test_a_refused_question_leaves_a_closed_network_unchanged(self):
        closed = SAMPLE + [("set_leaving", 1, 1, 0)]
        self.assertEqual(ask(closed + [("traffic",), ("visits", 0, 0)])[-2:], [[-33], [-33]])
        self.assertEqual(look(closed + [("traffic",), ("visits", 0, 0)]), look(closed))


if __name__ == "__main__":
    unittest.main()
