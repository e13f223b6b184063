"""The calls 16 to 20: the numbers of customers and the times that they take."""

import unittest
from fractions import Fraction

from helper import PLACES, Plan, ask, ask_behind, drawn_plans, fraction_of, fractions_of, last


def one(name, calls, *place):
    return fraction_of(last(calls + [(name, *place)]))


def queue_by_sums(load, servers):
    """The mean number of waiting customers out of the number probabilities, where sums are told in closed form."""
    term = Fraction(1)
    before = Fraction(0)
    for number in range(servers):
        before += term
        term = term * load / (number + 1)
    used = load / servers
    return term * used / (1 - used) ** 2 / (before + term / (1 - used))


class InOrderOfArrival(unittest.TestCase):
    def station(self, servers, service, rates):
        calls = [("create", 1, len(rates)), ("set_station", 0, 0, servers), ("set_service", 0, 0, service)]
        return calls + [("set_arrival", 0, number, rate) for number, rate in enumerate(rates)]

    def test_one_server_by_hand(self):
        calls = self.station(1, 5, [4])
        self.assertEqual(last(calls + [("numbers",)]), [2, 4, 1, 4, 1])
        self.assertEqual(last(calls + [("place_number", 0, 0)]), [0, 4, 1])
        self.assertEqual(last(calls + [("visit_time", 0, 0)]), [0, 1, 1])

    def test_two_servers_by_hand(self):
        # The load is 1: 1/3 of the time nobody is there, 1/3 one, and 1/3 two and more.
        calls = self.station(2, 3, [3])
        self.assertEqual(last(calls + [("numbers",)]), [2, 4, 3, 4, 3])
        self.assertEqual(last(calls + [("visit_time", 0, 0)]), [0, 4, 9])

    def test_several_servers_and_classes_one_of_whose_rates_is_0(self):
        for servers in (1, 2, 20):
            for rates in ([1, 0, 5], [0, 2, 4], [3, 3, 0]):
                service = 7
                load = Fraction(6, service)
                queue = queue_by_sums(load, servers)
                calls = self.station(servers, service, rates)
                with self.subTest(servers=servers, rates=rates):
                    for number, rate in enumerate(rates):
                        self.assertEqual(one("place_number", calls, 0, number),
                                         Fraction(rate, service) + queue * rate / 6)
                        self.assertEqual(one("visit_time", calls, 0, number), Fraction(1, service) + queue / 6)
                    self.assertEqual(fractions_of(last(calls + [("numbers",)])), [load + queue] * 2)

    def test_the_queue_of_each_number_of_servers(self):
        for servers in range(1, 21):
            calls = self.station(servers, 7, [7 * servers - 3])
            load = servers - Fraction(3, 7)
            with self.subTest(servers=servers):
                self.assertEqual(one("place_number", calls, 0, 0), load + queue_by_sums(load, servers))

    def test_a_rate_of_0_in_all_classes(self):
        for servers in (1, 2, 20):
            for service in (1, 7, 100000):
                calls = self.station(servers, service, [0, 0])
                with self.subTest(servers=servers, service=service):
                    self.assertEqual(last(calls + [("visit_time", 0, 1)]), [0, 1, service])
                    self.assertEqual(last(calls + [("place_number", 0, 1)]), [0, 0, 1])
                    self.assertEqual(last(calls + [("numbers",)]), [2, 0, 1, 0, 1])
                    self.assertEqual(last(calls + [("time_from", 0, 0)]), [0, 1, service])

    def test_a_utilization_close_to_1(self):
        calls = self.station(1, 100000, [99999])
        self.assertEqual(last(calls + [("place_number", 0, 0)]), [0, 99999, 1])
        self.assertEqual(last(calls + [("visit_time", 0, 0)]), [0, 1, 1])

    def test_a_new_station_has_one_server(self):
        calls = [("create", 1, 1), ("set_service", 0, 0, 5), ("set_arrival", 0, 0, 4), ("place_number", 0, 0)]
        self.assertEqual(last(calls), [0, 4, 1])


class OtherKinds(unittest.TestCase):
    RATES = [("set_arrival", 0, 0, 1), ("set_arrival", 0, 2, 3),
             ("set_service", 0, 0, 4), ("set_service", 0, 1, 5), ("set_service", 0, 2, 6)]

    def station(self, kind):
        return [("create", 1, 3), ("set_station", 0, kind, 1)] + self.RATES

    def test_one_server_with_several_service_rates(self):
        # The loads are 1/4, 0 and 1/2, and what is left of the server is 1/4.
        for kind in (1, 3):
            calls = self.station(kind)
            with self.subTest(kind=kind):
                self.assertEqual([one("place_number", calls, 0, number) for number in range(3)], [1, 0, 2])
                self.assertEqual([one("visit_time", calls, 0, number) for number in range(3)],
                                 [1, Fraction(4, 5), Fraction(2, 3)])
                self.assertEqual(last(calls + [("numbers",)]), [2, 3, 1, 3, 1])
                self.assertEqual(last(calls + [("network_time",)]), [0, 3, 4])

    def test_a_server_for_everybody(self):
        calls = self.station(2)
        self.assertEqual([one("place_number", calls, 0, number) for number in range(3)],
                         [Fraction(1, 4), 0, Fraction(1, 2)])
        self.assertEqual([one("visit_time", calls, 0, number) for number in range(3)],
                         [Fraction(1, 4), Fraction(1, 5), Fraction(1, 6)])
        self.assertEqual(last(calls + [("numbers",)]), [2, 3, 4, 3, 4])

    def test_a_server_for_everybody_under_any_load(self):
        for rate in (0, 1, 99999, 100000):
            calls = [("create", 1, 1), ("set_station", 0, 2, 1), ("set_arrival", 0, 0, rate)]
            with self.subTest(rate=rate):
                self.assertEqual(last(calls + [("place_number", 0, 0)]), [0, rate, 1])
                self.assertEqual(last(calls + [("visit_time", 0, 0)]), [0, 1, 1])
                self.assertEqual(last(calls + [("time_from", 0, 0)]), [0, 1, 1])
                self.assertEqual(last(calls + [("utilizations",)]), [1, 0, 1])

    def test_nobody_comes(self):
        for kind in (1, 2, 3):
            calls = [("create", 1, 2), ("set_station", 0, kind, 1), ("set_service", 0, 1, 8)]
            with self.subTest(kind=kind):
                self.assertEqual(last(calls + [("numbers",)]), [2, 0, 1, 0, 1])
                self.assertEqual(last(calls + [("place_number", 0, 1)]), [0, 0, 1])
                self.assertEqual(last(calls + [("visit_time", 0, 1)]), [0, 1, 8])


class Networks(unittest.TestCase):
    # Station 0 in the order of arrival, 1 shared, 2 for everybody, 3 the latest first: one class through them all.
    ROUND = Plan(4, 1, {0: 2}, {(0, 1): 1, (1, 2): 1, (2, 3): 1, (3, 0): 1}, {3: 1},
                 {0: (0, 1), 1: (1, 1), 2: (2, 1), 3: (3, 1)}, {0: 8, 1: 5, 2: 1, 3: 6})

    def test_the_four_kinds_by_hand(self):
        # The traffic is 4 everywhere; the utilizations are 1/2, 4/5, 0 and 2/3.
        calls = self.ROUND.calls()
        found = ask(calls + [("numbers",), ("network_time",), ("time_from", 0, 0), ("time_from", 3, 0)])
        self.assertEqual(found[len(calls):],
                         [[5, 1, 1, 4, 1, 4, 1, 2, 1, 11, 1], [0, 11, 2], [0, 11, 2], [0, 13, 4]])

    def test_the_last_of_the_numbers_is_the_sum_of_all(self):
        for plan in drawn_plans(24):
            if plan.is_stable():
                found = fractions_of(last(plan.calls() + [("numbers",)]))
                self.assertEqual(len(found), plan.size[0] + 1)
                self.assertEqual(found[-1], sum(found[:-1]))

    def test_numbers_are_summed_by_stations(self):
        calls = [("create", 2, 2)]
        calls += [("set_arrival", *place, rate) for place, rate in zip(PLACES, (1, 2, 3, 4))]
        calls += [("set_service", 0, 0, 5), ("set_service", 1, 0, 7)]
        self.assertEqual(last(calls + [("numbers",)]), [3, 4, 1, 6, 1, 10, 1])
        self.assertEqual([one("place_number", calls, *place) for place in PLACES], [1, 2, 3, 4])

    def test_no_arrivals(self):
        plan = Plan(2, 2, {}, {(0, 1): 3, (1, 2): 4, (2, 3): 1, (3, 0): 2}, {1: 4}, {}, {0: 3, 1: 6})
        calls = plan.calls()
        found = ask(calls + [("numbers",), ("network_time",), ("time_from", 0, 0), ("time_from", 1, 0)])
        # A half leaves from (1, 0); all others go on through (0, 1), (1, 1) and (0, 0) to it:
        # from (0, 0) there are 2, 2, 1 and 1 visits, from (1, 0) 1, 2, 1 and 1.
        self.assertEqual(found[len(calls):], [[3, 0, 1, 0, 1, 0, 1], [-6], [0, 3, 2], [0, 7, 6]])

    def test_no_arrivals_in_a_network_that_is_not_open(self):
        closed = [("create", 1, 1), ("set_route", 0, 0, 0, 0, 1)]
        self.assertEqual(last(closed + [("network_time",)]), [-6])
        self.assertEqual(last(closed + [("set_arrival", 0, 0, 1), ("network_time",)]), [-33])
        self.assertEqual(last(closed + [("set_arrival", 0, 0, 1), ("scale_arrivals", 0, 1), ("network_time",)]), [-6])

    def test_an_arrival_at_any_place_is_one(self):
        for place in PLACES:
            calls = [("create", 2, 2), ("set_service", *place, 4), ("set_arrival", *place, 3)]
            with self.subTest(place=place):
                self.assertEqual(last(calls + [("network_time",)]), [0, 1, 1])

    def test_a_station_with_a_utilization_of_1_spoils_all(self):
        calls = self.ROUND.calls() + [("set_service", 3, 0, 4)]
        questions = [("numbers",), ("network_time",)]
        questions += [(name, 0, 0) for name in ("place_number", "visit_time", "time_from")]
        self.assertEqual(ask(calls + questions)[len(calls):], [[-33]] * 5)

    def test_they_follow_the_changes(self):
        found = ask([("create", 1, 1), ("set_service", 0, 0, 6), ("set_arrival", 0, 0, 3), ("numbers",),
                     ("set_station", 0, 2, 1), ("numbers",), ("set_station", 0, 0, 2), ("numbers",),
                     ("set_station", 0, 3, 1), ("set_arrival", 0, 0, 4), ("numbers",)])
        self.assertEqual([found[3], found[5], found[7], found[10]],
                         [[2, 1, 1, 1, 1], [2, 1, 2, 1, 2], [2, 8, 15, 8, 15], [2, 2, 1, 2, 1]])


class DrawnNetworks(unittest.TestCase):
    def test_they_answer_what_the_words_of_the_document_come_to(self):
        seen = 0
        for number, plan in enumerate(drawn_plans(64)):
            questions = [("numbers",), ("network_time",)]
            questions += [(name, *place) for name in ("place_number", "visit_time", "time_from")
                          for place in plan.places]
            found = ask_behind(plan.calls(), questions)
            with self.subTest(number=number):
                if plan.is_stable():
                    seen += 1
                    self.hold(plan, found)
                else:
                    self.assertEqual(found, [[-33]] * len(questions))
        self.assertGreater(seen, 30)

    def hold(self, plan, found):
        count = len(plan.places)
        numbers = plan.numbers()
        self.assertEqual(fractions_of(found[0]), numbers)
        self.assertEqual(fraction_of(found[1]), numbers[-1] / sum(plan.arrivals.values()))
        asked = [fraction_of(answer) for answer in found[2:]]
        self.assertEqual(asked[:count], [plan.number(place) for place in range(count)])
        self.assertEqual(asked[count:2 * count], [plan.visit_time(place) for place in range(count)])
        self.assertEqual(asked[2 * count:], [plan.time_from(place) for place in range(count)])


if __name__ == "__main__":
    unittest.main()
