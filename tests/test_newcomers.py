"""fold_in and recommend_new."""

import unittest

from helper import LARGEST, SlowModel, last, look_at, run, slow_run

# The base is 0, and all biases of items are, too.
FREE = ("create", 2, 2, 0, 1, 0, 0, 0, 0)

# Outside the limits on a model with three items; each also as the ratings of recommend_new.
WRONG = [
    (0,), (2,), (LARGEST,), (0, 5, 1), (0, 5, 1, 5, 2), (0, 5, 0, 5), (0, 5, 0, 6), (1, 5, 0, 5), (0, 5, 2, 5, 1, 5),
    (0, 5, 1, 5, 1, 5), (3, 5), (LARGEST, 5), (0, 5, 3, 5), (0, 0), (0, 11), (0, LARGEST), (0, 5, 1, 0), (0, 5, 1, 11),
    (0, 5, 1, 5, 2, 11), (0, 5, 1, 5, 2, 5, 3, 5), (3, 11), (1, 0, 0, 0), (3,), (5, 0), tuple([0, 5] * 8),
    tuple(range(1, 16)), tuple(range(1, 17)),
]


def slow_rounds(item_factors, first_bias):
    """Calls that make a model whose new users with the rating 1 for both items need many rounds."""
    return [("create", 1, 2, 1, 4096, 0, 0, 0, 0), ("set_parameter", 1, 0, 0, 0, first_bias),
            ("set_parameter", 1, 0, 1, 0, item_factors[0]), ("set_parameter", 1, 1, 1, 0, item_factors[1])]


class FoldIn(unittest.TestCase):
    def test_a_bias(self):
        self.assertEqual(last(FREE, ("fold_in", 0, 8)), [2, 524288])
        self.assertEqual(last(FREE, ("fold_in", 1, 8)), [2, 524288])
        self.assertEqual(last(FREE, ("fold_in", 0, 8, 1, 5)), [2, 425984])

    def test_the_penalties(self):
        create = ("create", 2, 2, 0, 1, 0, 0, 1, 0)
        self.assertEqual(last(create, ("fold_in", 0, 8, 1, 5)), [2, 283989])
        # The first item's factor is -40: 40^2 + 7 is the curvature, and 3 + 1 that of the bias.
        create = ("create", 1, 1, 1, 64, 0, 7, 3, 0)
        slow = SlowModel(*create[1:]).fold_in(0, 1)
        self.assertEqual(last(create, ("fold_in", 0, 1)), slow)
        bias, factor = slow[1:]
        self.assertEqual(bias, (2 * (65536 + 40 * factor) + 4) // 8)
        self.assertEqual(factor, -64)

    def test_the_base_and_the_biases_of_items(self):
        calls = [FREE, ("set_rating", 0, 0, 4), ("reset",), ("set_parameter", 1, 1, 0, 1, 100)]
        self.assertEqual(run(*calls, ("fold_in", 0, 5), ("fold_in", 1, 5), ("fold_in", 0, 4))[4:],
                         [[2, 65536], [2, 65636], [1, 0]])

    def test_steps_in_the_order_of_the_places(self):
        # The bias takes all of the residual first, and nothing is left for the factor.
        calls = [("create", 1, 1, 1, 4096, 0, 0, 0, 0), ("set_parameter", 1, 0, 1, 0, 256)]
        self.assertEqual(last(*calls, ("fold_in", 0, 3)), [2, 196608, 0])
        # Beyond the end of its range the factor takes the rest.
        calls.append(("set_parameter", 1, 0, 0, 1, 655360))
        self.assertEqual(last(*calls, ("fold_in", 0, 10)), [2, 655360, 2560])

    def test_no_ratings(self):
        for factors in range(4):
            for penalty in (0, 1):
                create = ("create", 3, 3, factors, 64, 0, penalty, penalty, 5)
                self.assertEqual(last(create, ("fold_in",)), [1, 0] + [0] * factors)

    def test_all_items_rated(self):
        create = ("create", 1, 8, 3, 300, 0, 5, 2, 77)
        ratings = [number for item in range(8) for number in (item, 1 + (7 * item) % 10)]
        calls = [create, ("train", 2), ("fold_in", *ratings), ("recommend_new", 8, *ratings)]
        self.assertEqual(run(*calls), slow_run(*calls))
        self.assertEqual(last(*calls), [0])

    def test_the_ends_of_the_ranges(self):
        for limit in (1, 4096):
            create = ("create", 1, 1, 1, limit, 0, 0, 0, 0)
            # The residual is 1310720 at first.
            calls = [create, ("set_parameter", 1, 0, 0, 1, 655360), ("set_parameter", 1, 0, 1, 0, 1)]
            self.assertEqual(last(*calls, ("fold_in", 0, 10)), [2, 655360, limit])
            # It is -1245184 at first.
            calls = [create, ("set_rating", 0, 0, 10), ("reset",), ("set_parameter", 1, 0, 0, 0, 655360),
                     ("set_parameter", 1, 0, 1, 0, 1)]
            self.assertEqual(last(*calls, ("fold_in", 0, 1)), [2, -655360, -limit])

    def test_a_nonnegative_model(self):
        calls = [("create", 1, 2, 1, 64, 1, 0, 0, 0), ("set_parameter", 1, 0, 1, 0, 256),
                 ("set_parameter", 1, 1, 1, 0, 0)]
        # A factor below 0 would be best for the first, one above the limit for the second.
        self.assertEqual(last(*calls, ("fold_in", 0, 1, 1, 10)), [2, 360448, 0])
        self.assertEqual(last(*calls, ("fold_in", 0, 10, 1, 1))[2], 64)
        self.assertEqual(last(*calls, ("set_parameter", 1, 1, 0, 0, 655360), ("fold_in", 1, 1)), [2, -589824, 0])

    def test_factors_0(self):
        self.assertEqual(last(("create", 1, 1, 0, 4096, 0, 9, 0, 0), ("fold_in", 0, 10)), [2, 655360])

    def test_curvature_0(self):
        # The item's factor is 0, so that the new user's stays at 0, whatever the first user's is.
        calls = [("create", 1, 1, 1, 64, 0, 0, 0, 0), ("set_parameter", 1, 0, 1, 0, 0)]
        self.assertEqual(last(*calls, ("fold_in", 0, 2)), [2, 131072, 0])

    def test_the_users_of_the_model_do_not_matter(self):
        calls = [("create", 2, 3, 2, 300, 0, 5, 2, 77), ("train", 1)]
        wild = [("set_rating", 0, 0, 9), ("set_rating", 0, 1, 9), ("set_rating", 1, 2, 9),
                ("set_parameter", 0, 0, 0, 0, 5000), ("set_parameter", 0, 0, 1, 1, 299),
                ("set_parameter", 0, 1, 2, 0, 300)]
        look = [("fold_in", 0, 3, 2, 10), ("recommend_new", 9, 0, 3, 2, 10), ("recommend_new", 9)]
        self.assertEqual(run(*calls, *wild, *look)[-3:], run(*calls, *look)[-3:])

    def test_at_most_100_rounds(self):
        for item_factors, first_bias, answer in [
            ((200, 259), 10000, [99, 28636, 139]), ((200, 256), 9000, [100, 31852, 128]),
            ((200, 250), 8000, [100, 34986, 119]), ((100, 110), 10000, [100, 39746, 200]),
        ]:
            calls = slow_rounds(item_factors, first_bias) + [("fold_in", 0, 1, 1, 1)]
            self.assertEqual(last(*calls), answer)
            self.assertEqual(slow_run(*calls)[-1], answer)

    def test_ratings_outside_their_limits(self):
        create = ("create", 2, 3, 1, 64, 0, 1, 1, 5)
        self.assertNotEqual(last(create, ("fold_in", 0, 1, 1, 10, 2, 5)), [-22])
        self.assertNotEqual(last(create, ("fold_in", 2, 10)), [-22])
        for ratings in WRONG:
            self.assertEqual(last(create, ("fold_in", *ratings)), [-22], ratings)

    def test_the_items_of_the_model(self):
        for items in range(1, 9):
            create = ("create", 1, items, 0, 64, 0, 1, 1, 5)
            self.assertNotEqual(last(create, ("fold_in", items - 1, 5)), [-22])
            self.assertEqual(last(create, ("fold_in", items, 5)), [-22])


class RecommendNew(unittest.TestCase):
    # Biases of the items 0 to 4: 30, -10, 50, 30, 0.
    SHOP = [("create", 1, 5, 0, 1, 0, 0, 0, 5), ("set_parameter", 1, 0, 0, 0, 30), ("set_parameter", 1, 1, 0, 1, 10),
            ("set_parameter", 1, 2, 0, 0, 50), ("set_parameter", 1, 3, 0, 0, 30)]

    def test_no_ratings(self):
        whole = [2, 50, 0, 30, 3, 30, 4, 0, 1, -10]
        for count in (0, 1, 3, 5):
            self.assertEqual(last(*self.SHOP, ("recommend_new", count)), [count, *whole[:2 * count]])
        for count in (6, LARGEST):
            self.assertEqual(last(*self.SHOP, ("recommend_new", count)), [5, *whole])

    def test_with_the_row_of_the_new_user(self):
        # The new user's bias is 65536 - 50, so that the prediction for item 2 is 65536.
        self.assertEqual(last(*self.SHOP, ("recommend_new", 9, 2, 1)),
                         [4, 0, 65516, 3, 65516, 4, 65486, 1, 65476])
        self.assertEqual(last(*self.SHOP, ("recommend_new", 1, 2, 1)), [1, 0, 65516])
        # The bias is 65508.5, rounded up.
        self.assertEqual(last(*self.SHOP, ("recommend_new", 9, 0, 1, 2, 1, 3, 1, 4, 1)), [1, 1, 65509 - 10])

    def test_all_items_rated(self):
        for count in (0, 1, LARGEST):
            self.assertEqual(last(*self.SHOP, ("recommend_new", count, 0, 1, 1, 1, 2, 1, 3, 1, 4, 1)), [0])

    def test_as_recommend_for_a_user_with_the_same_row(self):
        for seed in range(20):
            calls = [("create", 2, 5, 2, 300, seed % 2, 5, 2, seed), ("set_rating", 0, 1, 8), ("set_rating", 0, 3, 2),
                     ("reset",), ("train", 3)]
            row = last(*calls, ("fold_in", 0, 9, 3, 4))[1:]
            sets = [("set_parameter", 0, 1, place, int(value < 0), abs(value)) for place, value in enumerate(row)]
            rate = [("set_rating", 1, 0, 9), ("set_rating", 1, 3, 4)]
            self.assertEqual(last(*calls, ("recommend_new", 9, 0, 9, 3, 4)),
                             last(*calls, *sets, *rate, ("recommend", 1, 9)))

    def test_ratings_outside_their_limits(self):
        create = ("create", 2, 3, 1, 64, 0, 1, 1, 5)
        self.assertNotEqual(last(create, ("recommend_new", 1, 0, 1, 1, 10, 2, 5)), [-22])
        for ratings in WRONG:
            for count in (0, 2, LARGEST):
                self.assertEqual(last(create, ("recommend_new", count, *ratings)), [-22], ratings)


class TheModelStays(unittest.TestCase):
    def test_after_both_calls(self):
        calls = [("create", 2, 3, 2, 300, 0, 5, 2, 77), ("set_rating", 0, 0, 8), ("set_rating", 0, 1, 3),
                 ("set_rating", 1, 1, 5), ("reset",), ("sweep",)]
        look = look_at(2, 3, 2) + [("objective",), ("sweep",), ("reset",), ("objective",)]
        for ratings in [(), (0, 10), (2, 1), (0, 1, 1, 10, 2, 1)]:
            for call in [("fold_in", *ratings), ("recommend_new", 2, *ratings)]:
                self.assertEqual(run(*calls, call, *look)[7:], run(*calls, *look)[6:], call)

    def test_the_same_call_again(self):
        create = ("create", 2, 3, 2, 300, 0, 5, 2, 77)
        for call in [("fold_in", 0, 10, 1, 2), ("recommend_new", 2, 0, 10, 1, 2)]:
            found = run(create, call, call)
            self.assertEqual(found[1], found[2])


if __name__ == "__main__":
    unittest.main()
