"""The rows of the document's section "Examples" that use the calls 0 to 12 alone."""

import re
import unittest

from helper import ask

ROWS = """
    create(2, 1) -> 0
    set_service(0, 0, 4) -> 1
    set_service(1, 0, 3) -> 1
    set_arrival(0, 0, 1) -> 0
    set_route(0, 0, 1, 0, 1) -> 0
    set_route(1, 0, 0, 0, 1) -> 0
    is_open() -> 0
    traffic() -> error -33
    set_leaving(1, 0, 1) -> 0
    is_open() -> 1
    traffic() -> 2, 2, 1, 2, 1
    visits(0, 0) -> 2, 2, 1, 2, 1
    scale_arrivals(3, 2) -> error -33
    set_arrival(0, 0, 2) -> 1
    set_station(1, 0, 2) -> 0
    set_service(0, 0, 8) -> 4
    set_station(1, 2, 1) -> 0
    route_probability(1, 0, 0, 0) -> 0, 1, 2
    leave_probability(0, 0) -> 0, 0, 1
    set_station(2, 0, 1) -> error -2
    set_station(0, 1, 2) -> error -22
"""


def whole_numbers(text):
    return [int(number) for number in re.findall(r"-?\d+", text)]


class Examples(unittest.TestCase):
    def test_each_row_is_answered_as_it_stands(self):
        rows = [row.strip() for row in ROWS.strip().splitlines()]
        calls = []
        for row in rows:
            name, rest = row.split("(", 1)
            calls.append((name, *whole_numbers(rest.split(")")[0])))
        for row, answer in zip(rows, ask(calls)):
            with self.subTest(row=row):
                self.assertEqual(answer, whole_numbers(row.split("->")[1]))

    def test_the_traffic_behind_the_last_changes_is_4_at_both_stations(self):
        changes = [
            ("create", 2, 1), ("set_route", 0, 0, 1, 0, 1), ("set_route", 1, 0, 0, 0, 1),
            ("set_leaving", 1, 0, 1), ("set_arrival", 0, 0, 2), ("traffic",),
        ]
        self.assertEqual(ask(changes)[-1], [2, 4, 1, 4, 1])


if __name__ == "__main__":
    unittest.main()
