"""How calls are handed in and answers are given back, and the instance that they speak of."""

import unittest

from helper import FAR_OUT, LOOK, NUMBERS, SAMPLE, ask, flat, last, look
from openqueues.network import answers

# A call of each kind, which a network of one station and one class takes behind those ahead of it.
TAKEN = [
    ("set_station", 0, 0, 1), ("set_service", 0, 0, 2), ("set_arrival", 0, 0, 1),
    ("set_route", 0, 0, 0, 0, 1), ("set_leaving", 0, 0, 1), ("clear_routes", 0, 0),
    ("scale_arrivals", 1, 1), ("route_probability", 0, 0, 0, 0), ("leave_probability", 0, 0),
    ("is_open",), ("traffic",), ("visits", 0, 0), ("utilizations",), ("is_stable",), ("bottleneck",),
    ("numbers",), ("place_number", 0, 0), ("visit_time", 0, 0), ("time_from", 0, 0), ("network_time",),
    ("departures",), ("number_probability", 0, 0), ("state_probability", 0), ("growth",), ("summary",),
]


def far_out(call):
    return (call[0], *[FAR_OUT for number in call[1:]])


# Lists with all calls, taken and refused ones.
LISTS = [SAMPLE + LOOK, TAKEN, [("create", 1, 1)] + TAKEN, SAMPLE + TAKEN + [("state_probability", 3, 4)],
         SAMPLE + [far_out(call) for call in TAKEN]]


def refuse(*given, **named):
    raise AssertionError("the list that was handed in is changed")


class Unchanging(list):
    """A list that refuses each change."""

    __setitem__ = __delitem__ = __iadd__ = __imul__ = refuse
    append = clear = extend = insert = pop = remove = reverse = sort = refuse


class Form(unittest.TestCase):
    def test_every_answer_has_its_size_ahead_of_it(self):
        handed_in = [0, 2, 1, 3, 1, 0, 9, 3, 1, 0, 4, 9, 1, 0, 10, 11, 12, 1, 0, 11, 3, 2, 0, 5, 10]
        self.assertEqual(answers(handed_in), [
            1, 0, 1, 0, 1, 9, 3, 0, 1, 1, 1, 1, 5, 2, 0, 1, 4, 1, 5, 2, 0, 1, 1, 1,
            5, 2, 0, 1, 4, 1, 1, -2, 1, 1,
        ])

    def test_the_sizes_of_all_answers(self):
        taken = [("state_probability", 0, 9) if call[0] == "state_probability" else call for call in TAKEN]
        sizes = [len(answer) for answer in ask([("create", 2, 3)] + taken)]
        self.assertEqual(sizes, [1, 1, 1, 1, 1, 1, 1, 1, 3, 3, 1, 13, 13,
                                 5, 1, 3, 7, 3, 3, 3, 3, 13, 3, 3, 3, 4])

    def test_the_list_of_a_state_probability_has_its_length_ahead_of_it(self):
        self.assertEqual(answers([0, 2, 1, 3, 0, 0, 1, 2, 0, 0, 2, 23, 2, 1, 0, 14]),
                         [1, 0, 1, 0, 1, 1, 3, 0, 1, 4, 1, 1])
        for length in (0, 1, 3, 4, 5, 6, 7, 8):
            with self.subTest(length=length):
                # What stands in the list is no call: 10 would be one that answers 1.
                handed_in = [0, 2, 1, 23, length] + [10] * length + [25]
                self.assertEqual(answers(handed_in), [1, 0, 1, -22, 4, 2, 1, 1, 1])

    def test_a_list_of_a_state_probability_without_an_instance(self):
        for length in range(9):
            with self.subTest(length=length):
                handed_in = [23, length] + [10] * length + [0, 1, 1]
                self.assertEqual(answers(handed_in), [1, -11, 1, 0])

    def test_no_number_but_an_error_is_below_0(self):
        for answer in ask(SAMPLE + TAKEN):
            self.assertTrue(answer in ([-2], [-22], [-33]) or min(answer) >= 0, answer)

    def test_all_answered_numbers_are_whole_numbers(self):
        for calls in LISTS:
            given_back = answers(flat(calls))
            self.assertIs(type(given_back), list)
            self.assertEqual({type(number) for number in given_back}, {int})

    def test_the_list_that_is_handed_in_is_unchanged(self):
        for calls in LISTS:
            handed_in = flat(calls)
            before = list(handed_in)
            answers(handed_in)
            self.assertEqual(handed_in, before)

    def test_the_list_that_is_handed_in_is_unchanged_on_the_way_too(self):
        # A list that can't be changed at all does as well.
        for calls in LISTS:
            self.assertEqual(answers(Unchanging(flat(calls))), answers(flat(calls)))

    def test_the_list_that_is_given_back_is_another_one_each_time(self):
        handed_in = flat(SAMPLE)
        first = answers(handed_in)
        kept = list(first)
        first.clear()
        self.assertEqual(answers(handed_in), kept)

    def test_two_times_with_the_same_list_answer_the_same(self):
        for calls in LISTS:
            handed_in = flat(calls)
            first = answers(handed_in)
            self.assertEqual(answers(handed_in), first)
            answers(flat(SAMPLE))
            self.assertEqual(answers(handed_in), first)

    def test_nothing_is_left_of_another_list(self):
        answers(flat(SAMPLE))
        for call in TAKEN:
            self.assertEqual(ask([call]), [[-11]])
        self.assertEqual(look([("create", 2, 2)]), FRESH)

    def test_sixty_calls(self):
        self.assertEqual(ask([("create", 1, 1)] * 60), [[0]] * 60)


# What a network of two stations and two classes tells right behind its create.
FRESH = (
    [[4, 0, 1, 0, 1, 0, 1, 0, 1], [1], [2, 0, 1, 0, 1], [3, 0, 1, 0, 1, 0, 1]]
    + [[4, 1, 1, 0, 1, 0, 1, 0, 1], [4, 0, 1, 1, 1, 0, 1, 0, 1],
       [4, 0, 1, 0, 1, 1, 1, 0, 1], [4, 0, 1, 0, 1, 0, 1, 1, 1]]
    + [[0]] * 24
    + [[1]] * 4
    + [[1], [8], [1], [8]]
)


class Lifetime(unittest.TestCase):
    def test_a_call_of_each_kind_is_taken_behind_a_create(self):
        self.assertEqual([call[0] for call in TAKEN], list(NUMBERS)[1:])
        for answer in ask([("create", 1, 1)] + TAKEN):
            self.assertGreaterEqual(answer[0], 0)

    def test_there_is_no_instance_before_the_first_create(self):
        for call in TAKEN:
            with self.subTest(call=call):
                self.assertEqual(ask([call]), [[-11]])

    def test_no_instance_comes_ahead_of_all_other_errors(self):
        for call in TAKEN:
            with self.subTest(call=call):
                self.assertEqual(ask([far_out(call)]), [[-11]])

    def test_a_refused_create_makes_no_instance(self):
        for call in TAKEN:
            with self.subTest(call=call):
                found = ask([("create", 0, 1), call, ("create", 1, 1), ("set_service", 0, 0, 2),
                             ("set_arrival", 0, 0, 1), call])
                self.assertEqual(found[:3], [[-22], [-11], [0]])
                self.assertGreaterEqual(found[5][0], 0)

    def test_a_new_network(self):
        self.assertEqual(look([("create", 2, 2)]), FRESH)

    def test_a_second_create_replaces_the_network(self):
        self.assertEqual(look(SAMPLE + [("create", 2, 2)]), FRESH)

    def test_a_second_create_may_have_another_size(self):
        changes = [("create", 2, 2), ("set_arrival", 1, 1, 5), ("create", 1, 3)]
        self.assertEqual(last(changes + [("traffic",)]), [3, 0, 1, 0, 1, 0, 1])
        self.assertEqual(last(changes + [("set_arrival", 1, 1, 5)]), [-2])
        self.assertEqual(last(changes + [("set_arrival", 0, 2, 5)]), [0])

    def test_a_refused_create_keeps_the_network(self):
        for refused in [(0, 1), (6, 1), (1, 0), (1, 4), (FAR_OUT, FAR_OUT)]:
            with self.subTest(refused=refused):
                self.assertEqual(last(SAMPLE + [("create", *refused)]), [-22])
                self.assertEqual(look(SAMPLE + [("create", *refused)]), look(SAMPLE))


if __name__ == "__main__":
    unittest.main()
