"""Both ends of each range, what lies outside, and which of two errors is answered."""

import unittest

from helper import FAR_OUT, SAMPLE, ask, last, look

STATION = ([0, 1, 2, 3, 4], [5, 6, FAR_OUT], -2)
CLASS = ([0, 1, 2], [3, 4, FAR_OUT], -2)
WEIGHT = ([0, 1, 999, 1000], [1001, FAR_OUT], -22)
CUSTOMERS = ([0, 1, 59, 60], [61, FAR_OUT], -22)

# For each argument of each call the taken values, the refused ones and the code of the refusal,
# in a network of five stations and three classes that is open.
ARGUMENTS = {
    "create": [([1, 2, 3, 4, 5], [0, 6, FAR_OUT], -22), ([1, 2, 3], [0, 4, FAR_OUT], -22)],
    "set_station": [STATION, ([0, 1, 2, 3], [4, 5, FAR_OUT], -22), ([1], [0, 21, FAR_OUT], -22)],
    "set_service": [STATION, CLASS, ([1, 2, 99999, 100000], [0, 100001, FAR_OUT], -22)],
    "set_arrival": [STATION, CLASS, ([0, 1, 99999, 100000], [100001, FAR_OUT], -22)],
    "set_route": [STATION, CLASS, STATION, CLASS, WEIGHT],
    "set_leaving": [STATION, CLASS, WEIGHT],
    "clear_routes": [STATION, CLASS],
    "scale_arrivals": [([0, 1, 999, 1000], [1001, FAR_OUT], -22),
                       ([1, 2, 999, 1000], [0, 1001, FAR_OUT], -22)],
    "route_probability": [STATION, CLASS, STATION, CLASS],
    "leave_probability": [STATION, CLASS],
    "visits": [STATION, CLASS],
    "place_number": [STATION, CLASS],
    "visit_time": [STATION, CLASS],
    "time_from": [STATION, CLASS],
    "number_probability": [STATION, CUSTOMERS],
    "state_probability": [CUSTOMERS] * 5,
}


def with_one(name, position, value):
    """The call with the first taken value everywhere, but for one place."""
    numbers = [taken[0] for taken, refused, code in ARGUMENTS[name]]
    numbers[position] = value
    return (name, *numbers)


class Ranges(unittest.TestCase):
    def test_all_values_within_a_range_are_taken(self):
        for name, arguments in ARGUMENTS.items():
            for position, (taken, refused, code) in enumerate(arguments):
                for value in taken:
                    call = with_one(name, position, value)
                    with self.subTest(call=call):
                        self.assertGreaterEqual(last([("create", 5, 3), call])[0], 0)

    def test_each_value_outside_of_a_range_is_refused(self):
        for name, arguments in ARGUMENTS.items():
            for position, (taken, refused, code) in enumerate(arguments):
                for value in refused:
                    call = with_one(name, position, value)
                    with self.subTest(call=call):
                        self.assertEqual(last([("create", 5, 3), call]), [code])

    def test_of_two_errors_the_one_that_is_listed_first_is_answered(self):
        for name, arguments in ARGUMENTS.items():
            for first, (first_taken, first_refused, first_code) in enumerate(arguments):
                for second, (taken, refused, code) in enumerate(arguments[:first]):
                    numbers = list(with_one(name, first, first_refused[0])[1:])
                    numbers[second] = refused[-1]
                    expected = -2 if -2 in (code, first_code) else -22
                    with self.subTest(name=name, numbers=numbers):
                        self.assertEqual(last([("create", 5, 3), (name, *numbers)]), [expected])

    def test_all_errors_at_once(self):
        for name, arguments in ARGUMENTS.items():
            call = (name, *[refused[0] for taken, refused, code in arguments])
            with self.subTest(call=call):
                self.assertEqual(last([("create", 5, 3), call]), [arguments[0][2]])

    def test_stations_and_classes_of_a_smaller_network(self):
        calls = [("create", 1, 3), ("set_arrival", 0, 2, 1), ("set_arrival", 1, 0, 1),
                 ("create", 3, 1), ("set_arrival", 2, 0, 1), ("set_arrival", 0, 1, 1),
                 ("set_station", 2, 0, 1), ("set_station", 3, 0, 1)]
        self.assertEqual(ask(calls), [[0], [0], [-2], [0], [0], [-2], [0], [-2]])

    def test_the_servers_of_each_kind(self):
        for kind in range(4):
            for servers in (0, 1, 2, 19, 20, 21, FAR_OUT):
                taken = servers == 1 or (kind == 0 and 1 <= servers <= 20)
                with self.subTest(kind=kind, servers=servers):
                    self.assertEqual(last([("create", 1, 1), ("set_station", 0, kind, servers)]),
                                     [0 if taken else -22])

    def test_the_servers_are_held_against_the_new_kind(self):
        calls = [("create", 1, 1), ("set_station", 0, 0, 20), ("set_station", 0, 3, 20),
                 ("set_station", 0, 3, 1), ("set_station", 0, 0, 20)]
        self.assertEqual(ask(calls), [[0], [0], [-22], [0], [0]])

    def test_the_length_of_the_list_of_a_state_probability(self):
        for stations in range(1, 6):
            for length in range(9):
                call = ("state_probability", *[0] * length)
                with self.subTest(stations=stations, length=length):
                    self.assertEqual(last([("create", stations, 2), call]),
                                     [0, 1, 1] if length == stations else [-22])

    def test_a_list_of_a_wrong_length_with_numbers_out_of_range(self):
        for length in (1, 2, 4, 8):
            with self.subTest(length=length):
                call = ("state_probability", *[61] * length)
                self.assertEqual(last([("create", 3, 1), call]), [-22])


# Networks of two stations and one class where nothing that asks for a stable one is answered.
CLOSED = [("create", 2, 1), ("set_arrival", 0, 0, 1), ("set_service", 0, 0, 9), ("set_route", 1, 0, 1, 0, 1)]
FULL = [("create", 2, 1), ("set_service", 0, 0, 9), ("set_arrival", 1, 0, 1)]
OVERFULL = [("create", 2, 1), ("set_service", 0, 0, 9), ("set_arrival", 1, 0, 2)]
# It is stable, but station 1 has a server for everybody.
WITH_KIND_2 = [("create", 2, 1), ("set_service", 0, 0, 9), ("set_arrival", 1, 0, 2), ("set_station", 1, 2, 1)]


class TwoErrorsAtOnce(unittest.TestCase):
    def hold(self, networks, expected):
        for calls in networks:
            for call, code in expected:
                with self.subTest(calls=calls, call=call):
                    self.assertEqual(last(calls + [call]), [code])

    def test_no_such_place_comes_ahead_of_a_network_that_is_not_open(self):
        self.hold([CLOSED], [(("visits", 0, 0), -33), (("visits", 2, 0), -2), (("visits", 0, 1), -2),
                             (("visits", FAR_OUT, FAR_OUT), -2)])

    def test_no_such_place_comes_ahead_of_a_network_that_is_not_stable(self):
        for name in ("place_number", "visit_time", "time_from"):
            self.hold([CLOSED, FULL, OVERFULL], [
                ((name, 0, 0), -33), ((name, 1, 0), -33), ((name, 2, 0), -2), ((name, 0, 1), -2),
                ((name, 2, 1), -2), ((name, FAR_OUT, 0), -2), ((name, 0, FAR_OUT), -2)])

    def test_the_errors_of_a_number_probability(self):
        expected = [(("number_probability", 1, customers), -33) for customers in (0, 1, 60)]
        expected += [(("number_probability", 1, customers), -22) for customers in (61, FAR_OUT)]
        expected += [(("number_probability", station, customers), -2)
                     for station in (2, FAR_OUT) for customers in (0, 60, 61, FAR_OUT)]
        self.hold([CLOSED, FULL, OVERFULL, WITH_KIND_2], expected)

    def test_the_errors_of_a_state_probability(self):
        expected = [(("state_probability", *customers), -33) for customers in [(0, 0), (60, 60), (0, 60)]]
        expected += [(("state_probability", *[0] * length), -22) for length in (0, 1, 3, 4, 5, 6, 7, 8)]
        expected += [(("state_probability", *customers), -22)
                     for customers in [(61, 0), (0, 61), (0, FAR_OUT), (FAR_OUT, FAR_OUT)]]
        self.hold([CLOSED, FULL, OVERFULL, WITH_KIND_2], expected)

    def test_no_arrivals_come_ahead_of_a_network_that_is_not_open(self):
        without = CLOSED + [("set_arrival", 0, 0, 0)]
        self.hold([CLOSED, FULL, OVERFULL], [(("network_time",), -33)])
        self.hold([without, [("create", 5, 3)], FULL + [("set_arrival", 1, 0, 0)]], [(("network_time",), -6)])

    def test_a_network_that_is_not_open(self):
        self.hold([CLOSED], [((name,), -33) for name in
                             ("traffic", "utilizations", "bottleneck", "numbers", "departures", "growth")])

    def test_a_network_that_is_open_but_not_stable(self):
        for calls in (FULL, OVERFULL):
            self.assertEqual(last(calls + [("numbers",)]), [-33])
            for name in ("traffic", "utilizations", "bottleneck", "departures", "growth"):
                with self.subTest(calls=calls, name=name):
                    self.assertGreaterEqual(last(calls + [(name,)])[0], 0)


# Refused calls of each kind and for each reason, in the network that SAMPLE makes.
REFUSED = [
    (("create", 0, 1), -22), (("create", 2, 4), -22),
    (("set_station", 2, 0, 1), -2), (("set_station", 0, 4, 1), -22),
    (("set_station", 0, 0, 0), -22), (("set_station", 0, 0, 21), -22),
    (("set_station", 1, 1, 2), -22), (("set_station", 1, 3, 0), -22),
    (("set_service", 2, 0, 9), -2), (("set_service", 0, 2, 9), -2),
    (("set_service", 0, 0, 0), -22), (("set_service", 1, 1, 100001), -22),
    (("set_arrival", 0, 2, 9), -2), (("set_arrival", 0, 0, 100001), -22),
    (("set_route", 2, 0, 0, 0, 9), -2), (("set_route", 0, 2, 0, 0, 9), -2),
    (("set_route", 0, 0, 2, 0, 9), -2), (("set_route", 0, 0, 0, 2, 9), -2),
    (("set_route", 0, 0, 1, 1, 1001), -22),
    (("set_leaving", 2, 0, 9), -2), (("set_leaving", 1, 1, 1001), -22),
    (("clear_routes", 2, 0), -2), (("clear_routes", 0, 2), -2),
    (("scale_arrivals", 1001, 1), -22), (("scale_arrivals", 1, 0), -22),
    (("scale_arrivals", 1000, 0), -22), (("scale_arrivals", 1, 1001), -22),
    (("scale_arrivals", 1, 30), -33), (("scale_arrivals", 1, 41), -33),
    (("route_probability", 0, 0, 0, 2), -2), (("leave_probability", 2, 0), -2),
    (("visits", 2, 0), -2), (("visits", 0, 2), -2),
    (("place_number", 2, 0), -2), (("place_number", 0, 2), -2),
    (("visit_time", 2, 0), -2), (("visit_time", 0, 2), -2),
    (("time_from", 2, 0), -2), (("time_from", 0, 2), -2),
    (("number_probability", 2, 0), -2), (("number_probability", 0, 61), -22),
    (("state_probability", 0), -22), (("state_probability", 0, 0, 0), -22),
    (("state_probability", 61, 0), -22), (("state_probability", 0, FAR_OUT), -22),
]

QUESTIONS = [
    ("route_probability", 0, 0, 1, 1), ("leave_probability", 1, 1), ("is_open",), ("traffic",),
    ("visits", 0, 1), ("utilizations",), ("is_stable",), ("bottleneck",), ("numbers",),
    ("place_number", 0, 1), ("visit_time", 1, 0), ("time_from", 0, 0), ("network_time",),
    ("departures",), ("number_probability", 1, 3), ("state_probability", 4, 5), ("growth",), ("summary",),
]


class Refusals(unittest.TestCase):
    def test_a_refused_call_leaves_the_network_unchanged(self):
        before = look(SAMPLE)
        for call, code in REFUSED:
            with self.subTest(call=call):
                self.assertEqual(last(SAMPLE + [call]), [code])
                self.assertEqual(look(SAMPLE + [call]), before)

    def test_a_question_leaves_the_network_unchanged(self):
        before = look(SAMPLE)
        for question in QUESTIONS:
            with self.subTest(question=question):
                found = look(SAMPLE + [question, question])
                self.assertEqual(found, before)
                self.assertGreaterEqual(last(SAMPLE + [question])[0], 0)

    def test_a_refused_question_leaves_the_network_unchanged(self):
        unlike = {
            "not open": [("set_leaving", 1, 1, 0)],
            "not stable": [("set_service", 0, 0, 1)],
            "without arrivals": [("scale_arrivals", 0, 1)],
            "with a server for everybody": [("set_station", 0, 2, 1)],
        }
        refusals = {}
        for reason, changes in unlike.items():
            before = look(SAMPLE + changes)
            for question in QUESTIONS:
                with self.subTest(reason=reason, question=question):
                    self.assertEqual(look(SAMPLE + changes + [question]), before)
                    answer = last(SAMPLE + changes + [question])
                    if answer[0] < 0:
                        refusals.setdefault(reason, []).append((question[0], answer[0]))
        stable_alone = ["numbers", "place_number", "visit_time", "time_from", "network_time",
                        "number_probability", "state_probability"]
        self.assertEqual(refusals["not stable"], [(name, -33) for name in stable_alone])
        self.assertEqual(sorted(refusals["not open"]), sorted((name, -33) for name in stable_alone + [
            "traffic", "visits", "utilizations", "bottleneck", "departures", "growth"]))
        self.assertEqual(refusals["without arrivals"], [("network_time", -6), ("growth", -33)])
        self.assertEqual(refusals["with a server for everybody"], [("state_probability", -33)])


if __name__ == "__main__":
    unittest.main()
