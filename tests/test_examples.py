"""The document's section "Examples": each of its rows, and the remark behind them."""

import re
import unittest
from fractions import Fraction

from helper import ask, fraction_of, fractions_of
from openqueues.station import blocked_part, queue_length, waiting_part

ROWS = """
    create(2, 1) -> 0
    set_service(0, 0, 4) -> 1
    set_service(1, 0, 3) -> 1
    set_arrival(0, 0, 1) -> 0
    set_route(0, 0, 1, 0, 1) -> 0
    set_route(1, 0, 0, 0, 1) -> 0
    is_open() -> 0
    traffic() -> error -33
    set_leaving(1, 0, 1) -> 0
    is_open() -> 1
    traffic() -> 2, 2, 1, 2, 1
    visits(0, 0) -> 2, 2, 1, 2, 1
    utilizations() -> 2, 1, 2, 2, 3
    bottleneck() -> 1, 2, 3
    numbers() -> 3, 1, 1, 2, 1, 3, 1
    visit_time(0, 0) -> 0, 1, 2
    visit_time(1, 0) -> 0, 1, 1
    time_from(0, 0) -> 0, 3, 1
    network_time() -> 0, 3, 1
    departures() -> 2, 0, 1, 1, 1
    number_probability(1, 2) -> 0, 4, 27
    state_probability([0, 1]) -> 0, 1, 9
    growth() -> 0, 3, 2
    scale_arrivals(3, 2) -> error -33
    set_arrival(0, 0, 2) -> 1
    is_stable() -> 0
    numbers() -> error -33
    set_station(1, 0, 2) -> 0
    set_service(0, 0, 8) -> 4
    is_stable() -> 1
    numbers() -> 3, 1, 1, 12, 5, 17, 5
    network_time() -> 0, 17, 10
    set_station(1, 2, 1) -> 0
    numbers() -> 3, 1, 1, 4, 3, 7, 3
    state_probability([0, 0]) -> error -33
    number_probability(1, 0) -> error -33
    route_probability(1, 0, 0, 0) -> 0, 1, 2
    leave_probability(0, 0) -> 0, 0, 1
    summary() -> 2, 1, 1, 1
    set_station(2, 0, 1) -> error -2
    set_station(0, 1, 2) -> error -22
"""

LAST_BEFORE_THE_REMARK = "set_service(0, 0, 8) -> 4"


def whole_numbers(text):
    return [int(number) for number in re.findall(r"-?\d+", text)]


def rows_and_calls():
    rows = [row.strip() for row in ROWS.strip().splitlines()]
    calls = []
    for row in rows:
        name, rest = row.split("(", 1)
        calls.append((name, *whole_numbers(rest.split(")")[0])))
    return (rows, calls)


class Examples(unittest.TestCase):
    def test_each_row_is_answered_as_it_stands(self):
        rows, calls = rows_and_calls()
        for row, answer in zip(rows, ask(calls)):
            with self.subTest(row=row):
                self.assertEqual(answer, whole_numbers(row.split("->")[1]))


class TheRemark(unittest.TestCase):
    def asked(self, *questions):
        """What is answered right behind the call that the remark names."""
        rows, calls = rows_and_calls()
        made = calls[:rows.index(LAST_BEFORE_THE_REMARK) + 1]
        return ask(made + list(questions))[len(made):]

    def test_the_traffic_is_4_at_both_stations(self):
        self.assertEqual(self.asked(("traffic",)), [[2, 4, 1, 4, 1]])

    def test_the_utilization_is_2_thirds(self):
        self.assertEqual(self.asked(("utilizations",)), [[2, 1, 2, 2, 3]])

    def test_b_of_2_and_c_are_seen_in_the_number_probabilities(self):
        found = self.asked(*[("number_probability", 1, number) for number in range(3)])
        none, one, two = [fraction_of(answer) for answer in found]
        self.assertEqual(two / (none + one + two), Fraction(8, 29))
        self.assertEqual(1 - none - one, Fraction(8, 15))

    def test_the_queue_is_seen_in_the_number_and_in_the_time(self):
        found = self.asked(("numbers",), ("visit_time", 1, 0))
        self.assertEqual(fractions_of(found[0])[1] - Fraction(4, 3), Fraction(16, 15))
        self.assertEqual((fraction_of(found[1]) - Fraction(1, 3)) * 4, Fraction(16, 15))

    def test_b_and_c_and_the_queue_by_themselves(self):
        self.assertEqual(blocked_part((4, 3), 2), (8, 29))
        self.assertEqual(waiting_part((4, 3), 2), (8, 15))
        self.assertEqual(queue_length((4, 3), 2), (16, 15))


if __name__ == "__main__":
    unittest.main()
