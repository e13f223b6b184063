"""The points 1 to 5 of the document's section "Requirements", each over several networks."""

import unittest
from fractions import Fraction

from helper import Plan, ask, ask_behind, drawn_plan, drawn_plans, fraction_of, fractions_of, last

# A full network of 5 stations and 3 classes with stations of all kinds: each place leads to two others.
FULL = Plan(
    5, 3, {place: 10 + place for place in range(0, 15, 2)},
    {(place, (place * step + 1) % 15): 7 * place + step for place in range(5, 15) for step in (2, 4)},
    {place: 3 * place + 40 for place in range(0, 15, 3)},
    {0: (0, 20), 1: (1, 1), 2: (2, 1), 3: (3, 1), 4: (0, 2)},
    {0: 37, 1: 1009, 6: 997, 11: 1013, 2: 17, 12: 19, 3: 503, 8: 2003, 13: 499, 4: 401})


def plans_of_all_sizes():
    return drawn_plans(40) + [FULL]


class Traffic(unittest.TestCase):
    def test_it_satisfies_its_equations_and_is_never_negative(self):
        for at, plan in enumerate(plans_of_all_sizes()):
            rates = fractions_of(last(plan.calls() + [("traffic",)]))
            with self.subTest(at=at):
                for place, rate in enumerate(rates):
                    coming = sum(rates[other] * plan.going(other, place) for other in range(len(rates)))
                    self.assertEqual(rate, plan.arrivals.get(place, 0) + coming)
                    self.assertGreaterEqual(rate, 0)


class Flow(unittest.TestCase):
    def test_the_departures_sum_to_the_external_arrival_rates(self):
        many = [drawn_plan(seed, 5, 3, 25) for seed in range(60)]
        for at, plan in enumerate(plans_of_all_sizes() + [plan for plan in many if plan.is_open()]):
            found = fractions_of(last(plan.calls() + [("departures",)]))
            with self.subTest(at=at):
                self.assertEqual(len(found), len(plan.places))
                self.assertEqual(sum(found), sum(plan.arrivals.values()))


class LittlesLaw(unittest.TestCase):
    def hold(self, plan):
        questions = [("numbers",), ("network_time",)] + [("time_from", *place) for place in plan.places]
        found = ask_behind(plan.calls(), questions)
        everybody = fractions_of(found[0])[-1]
        times = [fraction_of(answer) for answer in found[2:]]
        self.assertEqual(sum(plan.arrivals.get(place, 0) * time for place, time in enumerate(times)), everybody)
        self.assertEqual(fraction_of(found[1]) * sum(plan.arrivals.values()), everybody)

    def test_it_holds(self):
        sizes = set()
        for at, plan in enumerate(plans_of_all_sizes()):
            if plan.is_stable():
                sizes.add(plan.size)
                with self.subTest(at=at):
                    self.hold(plan)
        self.assertGreater(len(sizes), 5)
        self.assertTrue(FULL.is_stable())

    def test_it_holds_at_each_place(self):
        for at, plan in enumerate(plans_of_all_sizes()):
            if plan.is_stable():
                questions = [("traffic",)]
                questions += [(name, *place) for name in ("place_number", "visit_time") for place in plan.places]
                found = ask_behind(plan.calls(), questions)
                values = [fraction_of(answer) for answer in found[1:]]
                count = len(plan.places)
                with self.subTest(at=at):
                    self.assertEqual(values[:count], [rate * time for rate, time in zip(
                        fractions_of(found[0]), values[count:])])


# One class, no station of kind 2.
ONE_CLASS = [
    Plan(1, 1, {0: 5}, {}, {}, {0: (0, 1)}, {0: 6}),
    Plan(1, 1, {0: 5}, {(0, 0): 1}, {0: 4}, {0: (0, 3)}, {0: 3}),
    Plan(2, 1, {0: 3, 1: 1}, {(0, 1): 2, (1, 0): 1, (1, 1): 1}, {1: 5, 0: 1}, {0: (0, 2), 1: (1, 1)}, {0: 4, 1: 9}),
    Plan(2, 1, {0: 2}, {(0, 1): 1, (1, 0): 1}, {1: 1}, {0: (3, 1), 1: (0, 20)}, {0: 5, 1: 1}),
    Plan(3, 1, {0: 1, 2: 4}, {(0, 1): 3, (1, 2): 2, (2, 0): 1, (2, 2): 2}, {2: 4, 1: 1},
         {0: (1, 1), 1: (3, 1), 2: (0, 3)}, {0: 7, 1: 9, 2: 5}),
    Plan(5, 1, {0: 1, 3: 2}, {(0, 1): 1, (1, 2): 2, (2, 3): 1, (3, 4): 3, (4, 0): 1, (1, 4): 1}, {4: 2, 3: 1},
         {0: (0, 1), 1: (0, 2), 2: (1, 1), 3: (3, 1), 4: (0, 20)}, {0: 9, 1: 4, 2: 11, 3: 13, 4: 1}),
]


def moved(state, *changes):
    """The state with the changes, each a station and a number; None if somebody is missing."""
    found = list(state)
    for station, number in changes:
        found[station] += number
    return tuple(found) if min(found) >= 0 else None


class ProductForm(unittest.TestCase):
    def rate(self, plan, state, station):
        """How fast services end at the station."""
        busy = min(state[station], plan.servers(station))
        return plan.service(station) * busy

    def coming(self, plan, state):
        """The states from which one comes to this one, with the rates."""
        stations = range(plan.size[0])
        found = []
        for station in stations:
            found.append((moved(state, (station, -1)), lambda before, station=station:
                          plan.arrivals.get(station, 0)))
            found.append((moved(state, (station, 1)), lambda before, station=station:
                          self.rate(plan, before, station) * plan.going_out(station)))
            for other in stations:
                found.append((moved(state, (station, 1), (other, -1)), lambda before, station=station, other=other:
                              self.rate(plan, before, station) * plan.going(station, other)))
        return [(before, rate(before)) for before, rate in found if before is not None]

    def hold(self, plan, state):
        sources = self.coming(plan, state)
        questions = [("state_probability", *state)] + [("state_probability", *before) for before, rate in sources]
        found = [fraction_of(answer) for answer in ask_behind(plan.calls(), questions)]
        leaving = sum(plan.arrivals.values()) + sum(self.rate(plan, state, station) for station in range(plan.size[0]))
        self.assertGreater(found[0], 0)
        self.assertEqual(found[0] * leaving, sum(
            probability * rate for probability, (before, rate) in zip(found[1:], sources)))

    def test_the_global_balance_equations(self):
        for at, plan in enumerate(ONE_CLASS):
            count = plan.size[0]
            servers = [plan.servers(station) for station in range(count)]
            states = [(0,) * count, (1,) * count, (2,) * count, (59,) * count, tuple(servers),
                      tuple(number - 1 for number in servers), tuple(number + 1 for number in servers),
                      tuple(station % 3 for station in range(count)), tuple(21 - station for station in range(count)),
                      (5,) + (0,) * (count - 1), (0,) * (count - 1) + (20,)]
            for state in states:
                with self.subTest(at=at, state=state):
                    self.hold(plan, state)

    def test_in_drawn_networks(self):
        seen = 0
        for at, plan in enumerate(drawn_plans(40, kinds=(0, 1, 3), sizes=[(1, 1, 2), (2, 1, 4), (3, 1, 8), (5, 1, 9)])):
            if plan.is_stable() and all(plan.traffic()):
                seen += 1
                with self.subTest(at=at):
                    self.hold(plan, tuple((at + 3 * station) % 5 for station in range(plan.size[0])))
                    self.hold(plan, tuple((7 * at + 5 * station) % 60 for station in range(plan.size[0])))
        self.assertGreater(seen, 10)


class Growth(unittest.TestCase):
    def stable(self, plan, num, den):
        """Whether the network is stable behind a factor."""
        found = ask(plan.calls() + [("scale_arrivals", num, den), ("is_stable",)])
        self.assertEqual(found[-2], [0])
        return found[-1][0] == 1

    def hold(self, plan, growth):
        """For arrival rates that all these denominators divide."""
        self.assertEqual(fraction_of(last(plan.calls() + [("growth",)])), growth)
        self.assertFalse(self.stable(plan, growth.numerator, growth.denominator))
        for den in (1, 2, 3, 4, 5, 6, 12, 60):
            for num in {0, 1, growth * den // 1 - 1, growth * den // 1, growth * den // 1 + 1, 800}:
                if num >= 0:
                    with self.subTest(num=num, den=den):
                        self.assertEqual(self.stable(plan, num, den), Fraction(num, den) < growth)

    def test_factors_below_at_and_above_growth(self):
        plans = [
            (Plan(1, 1, {0: 60}, {}, {}, {}, {0: 100}), Fraction(5, 3)),
            (Plan(1, 1, {0: 60}, {}, {}, {0: (0, 20)}, {0: 1}), Fraction(1, 3)),
            (Plan(1, 1, {0: 60}, {}, {}, {0: (3, 1)}, {0: 60}), Fraction(1)),
            (Plan(2, 1, {0: 60}, {(0, 1): 1, (1, 0): 1}, {1: 1}, {0: (0, 2), 1: (1, 1)}, {0: 100, 1: 210}),
             Fraction(5, 3)),
            (Plan(2, 2, {0: 60, 3: 120}, {(0, 1): 1, (1, 3): 1}, {}, {0: (2, 1), 1: (3, 1)}, {0: 1, 1: 150, 3: 450}),
             Fraction(5, 4)),
            (Plan(5, 3, {place: 60 for place in range(15)}, {(place, (place + 5) % 15): 1 for place in range(10)}, {},
                  {station: (0, 3) for station in range(5)}, {0: 200, 1: 240, 2: 300, 3: 500, 4: 150}),
             Fraction(5, 4)),
        ]
        for at, (plan, growth) in enumerate(plans):
            with self.subTest(at=at):
                self.assertEqual(1 / max(plan.utilizations()), growth)
                self.hold(plan, growth)

    def test_factors_close_to_growth_in_drawn_networks(self):
        seen = 0
        for at, plan in enumerate(drawn_plans(32)):
            plan.arrivals = {place: 100 * rate for place, rate in plan.arrivals.items()}
            plan.kept_traffic = None
            if max(plan.utilizations()) > 0:
                growth = fraction_of(last(plan.calls() + [("growth",)]))
                for num in {growth * 100 // 1, growth * 100 // 1 + 1, 100}:
                    if num <= 1000:
                        seen += 1
                        with self.subTest(at=at, num=num):
                            self.assertEqual(self.stable(plan, num, 100), Fraction(num, 100) < growth)
        self.assertGreater(seen, 40)


if __name__ == "__main__":
    unittest.main()
