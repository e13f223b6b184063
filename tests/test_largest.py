"""The largest answers and the longest lists: that they are right, and come in good time."""

import math
import time
import unittest
from fractions import Fraction

from helper import Plan, ask, flat, fraction_of, fractions_of, last
from openqueues.network import answers

# On a slow machine too; each of these lists takes a second at most on a usual one.
SECONDS = 30

PRIMES = [997, 991, 983, 977, 971, 967, 953, 947, 941, 937, 929, 919, 911, 907, 887]
OTHER_PRIMES = [883, 881, 877, 863, 859, 857, 853, 839, 829, 827, 823, 821, 811, 809, 797]

# All places in one round, left from each of them: the longest fractions that 42 calls lead to.
ROUND = Plan(
    5, 3, {0: 1}, {(place, (place + 1) % 15): weight for place, weight in enumerate(PRIMES)},
    dict(enumerate(OTHER_PRIMES)), {station: (0, 20) for station in range(5)},
    {0: 99991, 1: 99989, 2: 99971, 3: 99961, 4: 99929})

# The same round with the greatest rates and weights, left from its last place alone, and seldom.
GREATEST = Plan(
    5, 3, {0: 100000, 14: 100000}, {**{(place, (place + 1) % 15): 1000 for place in range(15)}, (3, 3): 1000},
    {14: 1}, {station: (2, 1) for station in range(5)}, {})


class InGoodTime(unittest.TestCase):
    def in_time(self, calls):
        handed_in = flat(calls)
        before = time.monotonic()
        answers(handed_in)
        self.assertLess(time.monotonic() - before, SECONDS)

    def filled(self, calls, question):
        """A list of as many calls as there may be."""
        found = calls + [question] * (60 - len(calls))
        self.assertEqual(len(found), 60)
        return found

    def test_each_question_over_the_longest_fractions(self):
        questions = [(name,) for name in ("traffic", "utilizations", "is_stable", "bottleneck", "numbers",
                                          "network_time", "departures", "growth", "summary")]
        questions += [(name, 4, 2) for name in ("visits", "place_number", "visit_time", "time_from")]
        questions += [("number_probability", 4, 60), ("state_probability", 60, 60, 60, 60, 60),
                      ("state_probability", 20, 20, 20, 20, 20), ("state_probability", 60, 59, 58, 57, 56)]
        for question in questions:
            with self.subTest(question=question):
                self.assertGreaterEqual(last(ROUND.calls() + [question])[0], 0)
                self.in_time(self.filled(ROUND.calls(), question))

    def test_sixty_calls_of_all_numbers(self):
        places = [(station, number) for number in range(3) for station in range(5)]
        calls = [("create", 5, 3)] + [("set_arrival", *place, 100000) for place in places]
        calls += [("set_service", station, 0, 100000) for station in range(5)]
        calls += [("set_station", station, 0, 20) for station in range(5)]
        for place, other in zip(places, places[1:6]):
            calls += [("set_route", *place, *other, 1000), ("set_leaving", *place, 1000)]
        calls += [("numbers",), ("network_time",), ("departures",), ("growth",), ("summary",)]
        calls += [("time_from", *place) for place in places[:10]]
        calls += [("number_probability", station, 60) for station in range(5)]
        calls += [("state_probability", 60, 60, 60, 60, 60)] * 4
        self.assertEqual(len(calls), 60)
        self.assertGreaterEqual(min(ask(calls)[-20]), 0)
        self.in_time(calls)


class Right(unittest.TestCase):
    def test_the_longest_numbers_and_times(self):
        found = ask(ROUND.calls() + [("numbers",), ("time_from", 3, 2), ("network_time",), ("departures",)])[-4:]
        self.assertEqual(fractions_of(found[0]), ROUND.numbers())
        self.assertEqual(fraction_of(found[1]), ROUND.time_from(13))
        self.assertEqual(fraction_of(found[2]), ROUND.numbers()[-1])
        self.assertEqual(sum(fractions_of(found[3])), 1)
        self.assertGreater(max(found[0]), 2 ** 10000)

    def test_the_longest_probabilities(self):
        found = ask(ROUND.calls() + [("number_probability", 2, 60), ("state_probability", 60, 60, 60, 60, 60)])[-2:]
        self.assertEqual(fraction_of(found[0]), ROUND.number_probability(2, 60))
        self.assertEqual(fraction_of(found[1]), math.prod(
            ROUND.number_probability(station, 60) for station in range(5)))
        self.assertGreater(found[1][2], 2 ** 50000)

    def test_the_greatest_rates_and_weights(self):
        questions = [("traffic",), ("utilizations",), ("numbers",), ("network_time",), ("time_from", 0, 0),
                     ("departures",), ("summary",)]
        found = ask(GREATEST.calls() + questions)[-len(questions):]
        self.assertEqual(fractions_of(found[0]), GREATEST.traffic())
        self.assertEqual(found[1], [5] + [0, 1] * 5)
        self.assertEqual(fractions_of(found[2]), GREATEST.numbers())
        self.assertEqual(fraction_of(found[3]), GREATEST.numbers()[-1] / 200000)
        self.assertEqual(fraction_of(found[4]), GREATEST.time_from(0))
        self.assertEqual(fractions_of(found[5]), [0] * 14 + [200000])
        self.assertEqual(found[6], [5, 3, 1, 1])

    def test_utilizations_far_above_1(self):
        calls = [("set_station", station, 0, 1) for station in range(5)]
        found = ask(GREATEST.calls() + calls + [("utilizations",), ("bottleneck",), ("growth",), ("numbers",)])[-4:]
        used = [sum(GREATEST.traffic()[place] for place in range(station, 15, 5)) for station in range(5)]
        self.assertEqual(fractions_of(found[0]), used)
        self.assertEqual(found[1], [used.index(max(used)), max(used).numerator, max(used).denominator])
        self.assertEqual(fraction_of(found[2]), Fraction(1) / max(used))
        self.assertEqual(found[3], [-33])


if __name__ == "__main__":
    unittest.main()
