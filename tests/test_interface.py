"""How calls are handed in and answers are given back, and the instance that they speak of."""

import unittest

from helper import FAR_OUT, LOOK, NUMBERS, SAMPLE, ask, flat, last, look
from openqueues.network import answers

# A call of each kind that a network of one station and one class would take.
TAKEN = [
    ("set_station", 0, 0, 1), ("set_service", 0, 0, 1), ("set_arrival", 0, 0, 1),
    ("set_route", 0, 0, 0, 0, 1), ("set_leaving", 0, 0, 1), ("clear_routes", 0, 0),
    ("scale_arrivals", 1, 1), ("route_probability", 0, 0, 0, 0), ("leave_probability", 0, 0),
    ("is_open",), ("traffic",), ("visits", 0, 0),
]


def far_out(call):
    return (call[0], *[FAR_OUT for number in call[1:]])


class Form(unittest.TestCase):
    def test_every_answer_has_its_size_ahead_of_it(self):
        handed_in = [0, 2, 1, 3, 1, 0, 9, 3, 1, 0, 4, 9, 1, 0, 10, 11, 12, 1, 0, 11, 3, 2, 0, 5, 10]
        self.assertEqual(answers(handed_in), [
            1, 0, 1, 0, 1, 9, 3, 0, 1, 1, 1, 1, 5, 2, 0, 1, 4, 1, 5, 2, 0, 1, 1, 1,
            5, 2, 0, 1, 4, 1, 1, -2, 1, 1,
        ])

    def test_the_sizes_of_all_answers(self):
        sizes = [len(answer) for answer in ask([("create", 2, 3)] + TAKEN)]
        self.assertEqual(sizes, [1, 1, 1, 1, 1, 1, 1, 1, 3, 3, 1, 13, 13])

    def test_all_answered_numbers_are_whole_numbers(self):
        given_back = answers(flat(SAMPLE + LOOK))
        self.assertIs(type(given_back), list)
        self.assertEqual({type(number) for number in given_back}, {int})

    def test_the_list_that_is_handed_in_is_unchanged(self):
        handed_in = flat(SAMPLE + LOOK)
        before = list(handed_in)
        answers(handed_in)
        self.assertEqual(handed_in, before)

    def test_the_list_that_is_given_back_is_another_one_each_time(self):
        handed_in = flat(SAMPLE)
        first = answers(handed_in)
        kept = list(first)
        first.clear()
        self.assertEqual(answers(handed_in), kept)

    def test_two_times_with_the_same_list_answer_the_same(self):
        handed_in = flat(SAMPLE + LOOK)
        self.assertEqual(answers(handed_in), answers(handed_in))

    def test_nothing_is_left_of_another_list(self):
        answers(flat(SAMPLE))
        for call in TAKEN:
            self.assertEqual(ask([call]), [[-11]])
        self.assertEqual(look([("create", 2, 2)]), FRESH)

    def test_sixty_calls(self):
        self.assertEqual(ask([("create", 1, 1)] * 60), [[0]] * 60)


# What a network of two stations and two classes tells right behind its create.
FRESH = (
    [[4, 0, 1, 0, 1, 0, 1, 0, 1], [1]]
    + [[4, 1, 1, 0, 1, 0, 1, 0, 1], [4, 0, 1, 1, 1, 0, 1, 0, 1],
       [4, 0, 1, 0, 1, 1, 1, 0, 1], [4, 0, 1, 0, 1, 0, 1, 1, 1]]
    + [[0]] * 24
    + [[1]] * 4
    + [[1], [8], [1], [8]]
)


class Lifetime(unittest.TestCase):
    def test_a_call_of_each_kind_is_taken_behind_a_create(self):
        self.assertEqual([call[0] for call in TAKEN], list(NUMBERS)[1:])
        for answer in ask([("create", 1, 1)] + TAKEN):
            self.assertGreaterEqual(answer[0], 0)

    def test_there_is_no_instance_before_the_first_create(self):
        for call in TAKEN:
            with self.subTest(call=call):
                self.assertEqual(ask([call]), [[-11]])

    def test_no_instance_comes_ahead_of_all_other_errors(self):
        for call in TAKEN:
            with self.subTest(call=call):
                self.assertEqual(ask([far_out(call)]), [[-11]])

    def test_a_refused_create_makes_no_instance(self):
        for call in TAKEN:
            with self.subTest(call=call):
                found = ask([("create", 0, 1), call, ("create", 1, 1), call])
                self.assertEqual(found[:3], [[-22], [-11], [0]])
                self.assertGreaterEqual(found[3][0], 0)

    def test_a_new_network(self):
        self.assertEqual(look([("create", 2, 2)]), FRESH)

    def test_a_second_create_replaces_the_network(self):
        self.assertEqual(look(SAMPLE + [("create", 2, 2)]), FRESH)

    def test_a_second_create_may_have_another_size(self):
        changes = [("create", 2, 2), ("set_arrival", 1, 1, 5), ("create", 1, 3)]
        self.assertEqual(last(changes + [("traffic",)]), [3, 0, 1, 0, 1, 0, 1])
        self.assertEqual(last(changes + [("set_arrival", 1, 1, 5)]), [-2])
        self.assertEqual(last(changes + [("set_arrival", 0, 2, 5)]), [0])

    def test_a_refused_create_keeps_the_network(self):
        for refused in [(0, 1), (6, 1), (1, 0), (1, 4), (FAR_OUT, FAR_OUT)]:
            with self.subTest(refused=refused):
                self.assertEqual(last(SAMPLE + [("create", *refused)]), [-22])
                self.assertEqual(look(SAMPLE + [("create", *refused)]), look(SAMPLE))


if __name__ == "__main__":
    unittest.main()
