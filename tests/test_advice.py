"""recommend and similar."""

import unittest

from helper import LARGEST, last, run

# Predictions of the items 0 to 4 for any user: 30, -10, 50, 30, 0.
SHOP = [("create", 2, 5, 0, 1, 0, 1, 1, 5), ("set_parameter", 1, 0, 0, 0, 30), ("set_parameter", 1, 1, 0, 1, 10),
        ("set_parameter", 1, 2, 0, 0, 50), ("set_parameter", 1, 3, 0, 0, 30)]


def rows_of(kind, rows, limit=4096):
    """Calls that make a model whose rows of this kind have these factors."""
    counts = (len(rows), 2) if kind == 0 else (2, len(rows))
    calls = [("create", *counts, len(rows[0]), limit, 0, 1, 1, 5)]
    for number, row in enumerate(rows):
        for place, value in enumerate(row):
            calls.append(("set_parameter", kind, number, 1 + place, int(value < 0), abs(value)))
    return calls


class Recommend(unittest.TestCase):
    def test_by_decreasing_prediction_and_then_the_smaller_number(self):
        self.assertEqual(last(*SHOP, ("recommend", 0, 5)), [5, 2, 50, 0, 30, 3, 30, 4, 0, 1, -10])

    def test_the_count(self):
        whole = [2, 50, 0, 30, 3, 30, 4, 0, 1, -10]
        for count in range(6):
            self.assertEqual(last(*SHOP, ("recommend", 1, count)), [count, *whole[:2 * count]])
        for count in (6, 100, LARGEST):
            self.assertEqual(last(*SHOP, ("recommend", 1, count)), [5, *whole])

    def test_rated_items_are_left_out(self):
        rate = [("set_rating", 0, 2, 10), ("set_rating", 0, 3, 1), ("set_rating", 1, 0, 4)]
        found = run(*SHOP, *rate, ("recommend", 0, 5), ("recommend", 0, 2), ("recommend", 1, 2))[8:]
        self.assertEqual(found, [[3, 0, 30, 4, 0, 1, -10], [2, 0, 30, 4, 0], [2, 2, 50, 3, 30]])
        self.assertEqual(last(*SHOP, *rate, ("clear_rating", 0, 3), ("recommend", 0, 2)), [2, 0, 30, 3, 30])

    def test_all_items_rated(self):
        rate = [("set_rating", 0, item, 5) for item in range(5)]
        self.assertEqual(run(*SHOP, *rate, ("recommend", 0, 5), ("recommend", 0, 0), ("recommend", 0, LARGEST))[10:],
                         [[0], [0], [0]])
        self.assertEqual(last(*SHOP, *rate[:4], ("recommend", 0, 5)), [1, 4, 0])

    def test_the_factors_of_the_user(self):
        calls = rows_of(1, [(3, 0, 0), (0, 3, 0), (0, 0, 3)]) + [
            ("set_parameter", 0, 0, 1, 0, 1), ("set_parameter", 0, 0, 2, 1, 2), ("set_parameter", 0, 0, 3, 0, 3),
            ("set_parameter", 0, 0, 0, 0, 100)]
        self.assertEqual(last(*calls, ("recommend", 0, 3)), [3, 2, 109, 0, 103, 1, 94])

    def test_equal_predictions(self):
        self.assertEqual(last(("create", 1, 8, 0, 1, 0, 1, 1, 5), ("recommend", 0, 3)), [3, 0, 0, 1, 0, 2, 0])

    def test_wrong_arguments(self):
        for user in (2, 8, LARGEST):
            for count in (0, 1, LARGEST):
                self.assertEqual(last(*SHOP, ("recommend", user, count)), [-2])


class Similar(unittest.TestCase):
    def test_by_decreasing_cosine(self):
        for kind in (0, 1):
            calls = rows_of(kind, [(10, 0), (1, 3), (5, 1), (30, 31), (2, 0)])
            self.assertEqual(run(*calls, ("similar", kind, 0, 9), ("similar", kind, 3, 9))[len(calls):],
                             [[4, 4, 2, 3, 1], [4, 1, 2, 0, 4]])

    def test_the_count(self):
        calls = rows_of(1, [(10, 0), (1, 3), (5, 1), (30, 31), (2, 0)])
        for count in range(5):
            self.assertEqual(last(*calls, ("similar", 1, 0, count)), [count, *[4, 2, 3, 1][:count]])
        for count in (5, 100, LARGEST):
            self.assertEqual(last(*calls, ("similar", 1, 0, count)), [4, 4, 2, 3, 1])

    def test_only_positive_sums_of_products(self):
        calls = rows_of(0, [(2, 1), (-1, 2), (-2, -1), (1, -2), (0, 0), (1, -1), (-1, 3)])
        self.assertEqual(run(*calls, ("similar", 0, 0, 9), ("similar", 0, 4, 9), ("similar", 0, 2, 9))[len(calls):],
                         [[2, 5, 6], [0], [0]])

    def test_ties_the_smaller_number_first(self):
        # Proportional rows; in floating point the greater one's cosine with the first row comes out greater.
        calls = rows_of(1, [(8, 25, 15), (34, 3, 21), (238, 21, 147), (34, 3, 21)])
        self.assertEqual(last(*calls, ("similar", 1, 0, 9)), [3, 1, 2, 3])
        # The same angle on both sides.
        calls = rows_of(1, [(5, 5), (3, 1), (1, 3), (2, 6), (6, 2), (1, 1)])
        self.assertEqual(last(*calls, ("similar", 1, 0, 9)), [5, 5, 1, 2, 3, 4])

    def test_an_exact_comparison(self):
        # The sines are 1 divided by the lengths of both rows, so that the longer one is nearer by a 10^-17th.
        calls = rows_of(0, [(4096, 2047), (2047, 1023), (2049, 1024)])
        self.assertEqual(last(*calls, ("similar", 0, 0, 2)), [2, 2, 1])

    def test_the_length_of_a_row_does_not_matter(self):
        calls = rows_of(0, [(1, 0), (4096, 4096), (1, 1), (2, 1)])
        self.assertEqual(last(*calls, ("similar", 0, 0, 9)), [3, 3, 1, 2])

    def test_biases_do_not_matter(self):
        calls = rows_of(0, [(1, 0), (1, 1), (2, 1)])
        calls += [("set_parameter", 0, number, 0, 0, 9) for number in (0, 1)]
        self.assertEqual(last(*calls, ("similar", 0, 0, 9)), [2, 2, 1])

    def test_rows_of_the_same_kind_alone(self):
        calls = rows_of(0, [(1, 0), (1, 1), (-2, 1)]) + [
            ("set_parameter", 1, number, place, 0, 1) for number in (0, 1) for place in (1, 2)]
        self.assertEqual(run(*calls, ("similar", 0, 0, 9), ("similar", 1, 0, 9))[len(calls):], [[1, 1], [1, 1]])

    def test_factors_0_and_a_single_row(self):
        self.assertEqual(last(("create", 3, 3, 0, 1, 0, 1, 1, 5), ("similar", 0, 0, 9)), [0])
        self.assertEqual(last(("create", 1, 3, 3, 64, 1, 1, 1, 5), ("similar", 0, 0, 9)), [0])

    def test_a_nonnegative_model(self):
        # No product is negative here, and no first factor of this model is 0.
        found = last(("create", 8, 1, 3, 4096, 1, 1, 1, 1), ("similar", 0, 3, 9))
        self.assertEqual([found[0], *sorted(found[1:])], [7, 0, 1, 2, 4, 5, 6, 7])

    def test_wrong_arguments(self):
        calls = rows_of(0, [(1, 0), (1, 1), (-2, 1)])
        for kind in (2, 3, LARGEST):
            for number in (0, 3, LARGEST):
                self.assertEqual(last(*calls, ("similar", kind, number, 1)), [-22])
        for row in [(0, 3), (1, 2), (0, LARGEST), (1, LARGEST)]:
            for count in (0, 1, LARGEST):
                self.assertEqual(last(*calls, ("similar", *row, count)), [-2])


if __name__ == "__main__":
    unittest.main()
