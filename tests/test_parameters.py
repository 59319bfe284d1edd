"""parameter, set_parameter and status."""

import unittest

from helper import LARGEST, SlowModel, last, look_at, order_of, run

CREATE = ("create", 2, 3, 2, 64, 0, 1, 1, 5)
NOT_THERE = [(2, 0, 0), (0, 2, 0), (1, 3, 0), (0, 0, 3), (1, 2, 3), (LARGEST, 0, 0), (0, LARGEST, 0), (0, 0, LARGEST)]


class Parameter(unittest.TestCase):
    def test_the_first_parameters(self):
        order = order_of(2, 3, 2)
        slow = SlowModel(*CREATE[1:])
        self.assertEqual(run(CREATE, *[("parameter", *parameter) for parameter in order])[1:],
                         [[0, slow.values[parameter]] for parameter in order])
        calls = [("create", 1, 1, 1, 64, 0, 1, 1, 0)]
        self.assertEqual(run(*calls, *[("parameter", *parameter) for parameter in order_of(1, 1, 1)])[1:],
                         [[0, 0], [0, 39], [0, 0], [0, -40]])

    def test_each_parameter_is_another(self):
        order = order_of(2, 3, 2)
        sets = [("set_parameter", *parameter, 0, 10 + position) for position, parameter in enumerate(order)]
        found = run(CREATE, *sets, *[("parameter", *parameter) for parameter in order])[1 + len(sets):]
        self.assertEqual(found, [[0, 10 + position] for position in range(len(order))])

    def test_after_a_step(self):
        calls = [("create", 1, 1, 0, 1, 0, 0, 1, 0), ("set_rating", 0, 0, 10), ("parameter", 0, 0, 0),
                 ("step", 0, 0, 0), ("parameter", 0, 0, 0), ("parameter", 1, 0, 0)]
        self.assertEqual(run(*calls)[2:], [[0, 0], [1, 0, 327680], [0, 327680], [0, 0]])

    def test_factors_0(self):
        create = ("create", 1, 1, 0, 1, 0, 1, 1, 5)
        self.assertEqual(run(create, ("parameter", 1, 0, 0), ("parameter", 1, 0, 1))[1:], [[0, 0], [-2]])

    def test_wrong_arguments(self):
        for parameter in [(1, 2, 2), (0, 1, 2)]:
            self.assertEqual(last(CREATE, ("parameter", *parameter))[0], 0)
        for parameter in NOT_THERE:
            self.assertEqual(last(CREATE, ("parameter", *parameter)), [-2], parameter)


class SetParameter(unittest.TestCase):
    def test_the_previous_value(self):
        self.assertEqual(run(CREATE, ("set_parameter", 1, 2, 0, 0, 7), ("set_parameter", 1, 2, 0, 1, 8),
                             ("set_parameter", 1, 2, 0, 1, 8), ("set_parameter", 1, 2, 0, 0, 0),
                             ("parameter", 1, 2, 0))[1:], [[0, 0], [0, 7], [0, -8], [0, -8], [0, 0]])
        first = SlowModel(*CREATE[1:]).values[0, 1, 2]
        self.assertEqual(run(CREATE, ("set_parameter", 0, 1, 2, 1, 9), ("parameter", 0, 1, 2))[1:],
                         [[0, first], [0, -9]])

    def test_no_other_parameter_changes(self):
        look = look_at(2, 3, 2)
        before = run(CREATE, *look)[1:]
        for position, parameter in enumerate(order_of(2, 3, 2)):
            after = run(CREATE, ("set_parameter", *parameter, 0, 63), *look)[2:]
            expected = list(before)
            # Behind the status and an explanation, of which a parameter may be a part.
            expected[1] = after[1]
            expected[2 + position] = [0, 63]
            self.assertEqual(after, expected)

    def test_the_range_of_a_bias(self):
        for create in (CREATE, ("create", 2, 3, 2, 64, 1, 1, 1, 5), ("create", 2, 3, 0, 1, 0, 1, 1, 5)):
            for row in [(0, 1), (1, 2)]:
                for negative, value in [(0, 655360), (1, -655360), (1, -655359), (0, 0), (1, 0)]:
                    calls = [create, ("set_parameter", *row, 0, negative, abs(value)), ("parameter", *row, 0)]
                    self.assertEqual(run(*calls)[1:], [[0, 0], [0, value]])
                for negative in (0, 1):
                    for size in (655361, LARGEST):
                        calls = [create, ("set_parameter", *row, 0, negative, size), ("parameter", *row, 0)]
                        self.assertEqual(run(*calls)[1:], [[-22], [0, 0]])

    def test_the_range_of_a_factor(self):
        for limit in (1, 2, 300, 4096):
            create = ("create", 2, 3, 2, limit, 0, 1, 1, 5)
            for negative in (0, 1):
                sign = -1 if negative else 1
                calls = [create, ("set_parameter", 1, 2, 2, negative, limit), ("parameter", 1, 2, 2),
                         ("set_parameter", 1, 2, 2, negative, limit + 1),
                         ("set_parameter", 1, 2, 2, negative, LARGEST), ("parameter", 1, 2, 2)]
                found = run(*calls)
                self.assertEqual(found[1][0], 0)
                self.assertEqual(found[2:], [[0, sign * limit], [-22], [-22], [0, sign * limit]])

    def test_the_range_of_a_factor_of_a_nonnegative_model(self):
        for limit in (1, 300, 4096):
            create = ("create", 2, 3, 2, limit, 1, 1, 1, 5)
            calls = [create, ("set_parameter", 0, 1, 1, 0, limit), ("set_parameter", 0, 1, 1, 0, limit + 1),
                     ("set_parameter", 0, 1, 1, 1, 1), ("set_parameter", 0, 1, 1, 1, limit),
                     ("set_parameter", 0, 1, 1, 0, 0), ("set_parameter", 0, 1, 1, 1, 0), ("parameter", 0, 1, 1)]
            self.assertEqual(run(*calls)[2:], [[-22], [-22], [-22], [0, limit], [0, 0], [0, 0]])

    def test_negative_outside_its_limits(self):
        for negative in (2, 3, LARGEST):
            for size in (0, 1, LARGEST):
                for place in (0, 1):
                    self.assertEqual(last(CREATE, ("set_parameter", 0, 0, place, negative, size)), [-22])

    def test_wrong_parameters_before_wrong_values(self):
        for parameter in NOT_THERE:
            for negative, size in [(0, 1), (0, LARGEST), (1, 655361), (2, 0), (LARGEST, LARGEST)]:
                self.assertEqual(last(CREATE, ("set_parameter", *parameter, negative, size)), [-2], parameter)

    def test_what_comes_after_uses_the_value(self):
        calls = [("create", 1, 1, 1, 300, 0, 2, 3, 5), ("set_parameter", 0, 0, 0, 1, 10),
                 ("set_parameter", 0, 0, 1, 0, 20), ("set_parameter", 1, 0, 1, 1, 30), ("set_rating", 0, 0, 1)]
        residual = 65536 + 10 + 600
        self.assertEqual(run(*calls, ("objective",), ("quadratic", 0, 0, 1))[5:], [
            [0, residual ** 2 + 300 + 2600, residual ** 2, 300 + 2600],
            [0, 902, -30 * (65536 + 10)],
        ])

    def test_a_step_from_an_end_of_the_range(self):
        calls = [("create", 1, 1, 0, 1, 0, 0, 0, 0), ("set_parameter", 0, 0, 0, 1, 655360), ("set_rating", 0, 0, 10)]
        self.assertEqual(last(*calls, ("step", 0, 0, 0)), [1, -655360, 655360])

    def test_reset_brings_the_first_value_back(self):
        calls = [CREATE, ("parameter", 0, 1, 2), ("set_parameter", 0, 1, 2, 0, 63), ("set_parameter", 0, 1, 0, 0, 63),
                 ("reset",), ("parameter", 0, 1, 2), ("parameter", 0, 1, 0)]
        found = run(*calls)
        self.assertEqual(found[5:], [found[1], [0, 0]])


class Status(unittest.TestCase):
    def test_the_sizes(self):
        for users, items, factors, count in [(1, 1, 0, 2), (1, 2, 1, 6), (2, 3, 0, 5), (8, 8, 3, 64), (3, 5, 2, 24)]:
            self.assertEqual(last(("create", users, items, factors, 9, 0, 1, 1, 0), ("status",)),
                             [users, items, factors, 0, count])

    def test_the_number_of_ratings(self):
        calls = [("set_rating", 0, 0, 8), ("set_rating", 0, 0, 3), ("set_rating", 1, 2, 3), ("set_rating", 1, 0, 1),
                 ("set_rating", 0, 1, 0), ("clear_rating", 0, 0), ("clear_rating", 0, 0), ("reset",), ("train", 2),
                 ("delete_user", 1)]
        looks = [call for pair in zip(calls, [("status",)] * len(calls)) for call in pair]
        self.assertEqual([answer[3] for answer in run(CREATE, *looks)[2::2]], [1, 1, 2, 3, 3, 2, 2, 2, 2, 0])

    def test_all_ratings(self):
        calls = [("set_rating", user, item, 5) for user in range(7) for item in range(8)]
        self.assertEqual(last(("create", 7, 8, 3, 9, 0, 1, 1, 0), *calls, ("status",)), [7, 8, 3, 56, 60])

    def test_of_the_present_model(self):
        self.assertEqual(run(CREATE, ("set_rating", 0, 0, 8), ("create", 9, 1, 0, 1, 0, 1, 1, 0), ("status",),
                             ("create", 1, 4, 0, 1, 0, 1, 1, 0), ("status",))[3::2],
                         [[2, 3, 2, 1, 15], [1, 4, 0, 0, 5]])


if __name__ == "__main__":
    unittest.main()
