"""predict, explain, residuals and mean_error."""

import unittest

from helper import LARGEST, last, run

# Parameters by hand: base 425984, and then predictions that differ from pair to pair.
HAND = [("create", 2, 3, 2, 300, 0, 1, 1, 5), ("set_rating", 0, 2, 8), ("set_rating", 0, 0, 5), ("reset",),
        ("set_parameter", 0, 0, 0, 0, 1000), ("set_parameter", 0, 0, 1, 0, 20), ("set_parameter", 0, 0, 2, 1, 30),
        ("set_parameter", 1, 2, 0, 1, 7), ("set_parameter", 1, 2, 1, 0, 300), ("set_parameter", 1, 2, 2, 0, 11),
        ("set_parameter", 1, 0, 1, 0, 0), ("set_parameter", 1, 0, 2, 1, 300)]
FIRST = 425984 + 1000 + 9000
LAST = 425984 + 1000 - 7 + 6000 - 330


class Predict(unittest.TestCase):
    def test_base_biases_and_products(self):
        self.assertEqual(run(*HAND, ("predict", 0, 2), ("predict", 0, 0))[len(HAND):], [[0, LAST], [0, FIRST]])

    def test_factors_0(self):
        calls = [("create", 2, 2, 0, 1, 0, 1, 1, 5), ("set_parameter", 0, 1, 0, 1, 5), ("set_parameter", 1, 1, 0, 1, 8)]
        self.assertEqual(run(*calls, ("predict", 0, 0), ("predict", 1, 0), ("predict", 0, 1), ("predict", 1, 1))[3:],
                         [[0, 0], [0, -5], [0, -8], [0, -13]])

    def test_neither_limited_nor_bound_to_ratings(self):
        calls = [("create", 1, 1, 3, 4096, 0, 0, 0, 5), ("set_rating", 0, 0, 10), ("reset",), ("clear_rating", 0, 0)]
        for negative in (0, 1):
            sets = [("set_parameter", kind, 0, place, negative * (place == 0 or kind), (655360, 4096)[place > 0])
                    for kind in (0, 1) for place in range(4)]
            sign = -1 if negative else 1
            self.assertEqual(last(*calls, *sets, ("predict", 0, 0)), [0, 655360 + sign * (2 * 655360 + 3 * 4096 ** 2)])

    def test_wrong_arguments(self):
        for name in ("predict", "explain"):
            self.assertNotEqual(last(*HAND, (name, 1, 2)), [-2])
            for pair in [(2, 0), (0, 3), (2, 3), (LARGEST, 0), (0, LARGEST)]:
                self.assertEqual(last(*HAND, (name, *pair)), [-2], (name, pair))


class Explain(unittest.TestCase):
    def test_the_parts_in_their_order(self):
        self.assertEqual(run(*HAND, ("explain", 0, 2), ("explain", 0, 0))[len(HAND):],
                         [[5, 425984, 1000, -7, 6000, -330], [5, 425984, 1000, 0, 0, 9000]])

    def test_factors_0(self):
        calls = [("create", 2, 2, 0, 1, 0, 1, 1, 5), ("set_parameter", 0, 1, 0, 1, 5), ("set_parameter", 1, 1, 0, 0, 8)]
        self.assertEqual(last(*calls, ("explain", 1, 1)), [3, 0, -5, 8])

    def test_how_many_parts(self):
        for factors in range(4):
            found = last(("create", 1, 1, factors, 9, 0, 1, 1, 5), ("explain", 0, 0))
            self.assertEqual((found[0], len(found)), (3 + factors, 4 + factors))

    def test_they_add_up_to_the_prediction(self):
        for seed in range(20):
            calls = [("create", 3, 3, 3, 4096, seed % 2, 1, 1, seed), ("set_rating", 0, 1, 3), ("set_rating", 2, 2, 10),
                     ("set_rating", 1, 2, 7), ("reset",), ("train", seed)]
            pairs = [(user, item) for user in range(3) for item in range(3)]
            found = run(*calls, *[(name, *pair) for pair in pairs for name in ("explain", "predict")])[len(calls):]
            for parts, prediction in zip(found[0::2], found[1::2]):
                self.assertEqual([0, sum(parts[1:])], prediction)


class Residuals(unittest.TestCase):
    def test_items_in_increasing_order(self):
        self.assertEqual(last(*HAND, ("residuals", 0)), [2, 0, 5 * 65536 - FIRST, 2, 8 * 65536 - LAST])

    def test_no_ratings(self):
        self.assertEqual(last(*HAND, ("residuals", 1)), [0])
        self.assertEqual(last(("create", 1, 1, 0, 1, 0, 1, 1, 5), ("residuals", 0)), [0])

    def test_all_items_rated(self):
        calls = [("create", 2, 8, 0, 1, 0, 1, 1, 5)] + [("set_rating", 1, item, 1 + item) for item in range(7, -1, -1)]
        pairs = [number for item in range(8) for number in (item, 65536 * (1 + item))]
        self.assertEqual(last(*calls, ("residuals", 1)), [8, *pairs])

    def test_a_removed_rating(self):
        self.assertEqual(last(*HAND, ("clear_rating", 0, 0), ("residuals", 0)), [1, 2, 8 * 65536 - LAST])

    def test_wrong_arguments(self):
        for user in (2, 8, LARGEST):
            self.assertEqual(last(*HAND, ("residuals", user)), [-2])


class MeanError(unittest.TestCase):
    CREATE = ("create", 2, 2, 0, 1, 0, 1, 1, 5)

    def test_lowest_terms(self):
        # The residuals are the ratings, in units of a rating.
        rate = [("set_rating", 0, 0, 1), ("set_rating", 0, 1, 2), ("set_rating", 1, 0, 3), ("set_rating", 1, 1, 4)]
        for count, numbers in [(1, [1, 1]), (2, [5, 2]), (3, [14, 3]), (4, [15, 2])]:
            self.assertEqual(last(self.CREATE, *rate[:count], ("mean_error",)), [0, *numbers])

    def test_the_smallest_and_great_ones(self):
        calls = [self.CREATE, ("set_rating", 0, 0, 1), ("set_parameter", 0, 0, 0, 0, 65535), ("mean_error",)]
        self.assertEqual(last(*calls), [0, 1, 65536 ** 2])
        calls = [self.CREATE, ("set_rating", 0, 0, 1), ("set_parameter", 0, 0, 0, 0, 65537), ("mean_error",)]
        self.assertEqual(last(*calls), [0, 1, 65536 ** 2])
        calls = [("create", 1, 1, 3, 4096, 0, 0, 0, 5), ("set_rating", 0, 0, 1), ("set_parameter", 0, 0, 0, 0, 655360)]
        calls += [("set_parameter", kind, 0, place, 0, 4096) for kind in (0, 1) for place in (1, 2, 3)]
        self.assertEqual(last(*calls, ("mean_error",)), [0, (9 + 768) ** 2, 1])
        calls += [("set_parameter", 1, 0, 0, 0, 655359)]
        self.assertEqual(last(*calls, ("mean_error",)), [0, ((19 + 768) * 65536 - 1) ** 2, 65536 ** 2])

    def test_an_error_of_0(self):
        self.assertEqual(last(self.CREATE, ("set_rating", 0, 0, 7), ("set_rating", 1, 1, 7), ("reset",),
                              ("mean_error",)), [0, 0, 1])

    def test_the_penalties_do_not_count(self):
        calls = [("create", 1, 1, 1, 300, 0, 1000, 1000, 5), ("set_parameter", 0, 0, 1, 0, 0),
                 ("set_parameter", 0, 0, 0, 0, 65536), ("set_rating", 0, 0, 2), ("mean_error",)]
        self.assertEqual(last(*calls), [0, 1, 1])

    def test_no_ratings(self):
        self.assertEqual(last(self.CREATE, ("mean_error",)), [-33])
        self.assertEqual(run(self.CREATE, ("set_rating", 1, 1, 7), ("mean_error",), ("delete_user", 1),
                             ("mean_error",))[2::2], [[0, 49, 1], [-33]])


if __name__ == "__main__":
    unittest.main()
