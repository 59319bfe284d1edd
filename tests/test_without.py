"""without."""

import unittest

from helper import LARGEST, last, look_at, run

# Training of this model without the third user takes more than 200 sweeps.
SLOW = ("create", 3, 2, 2, 4096, 0, 1, 0, 8)
SLOW_RATINGS = [("set_rating", 0, 0, 2), ("set_rating", 0, 1, 1), ("set_rating", 1, 0, 6), ("set_rating", 1, 1, 7)]
THIRD = [("set_rating", 2, 0, 9), ("set_rating", 2, 1, 2), ("reset",), ("train", 7), ("set_parameter", 1, 1, 1, 0, 500)]

PLAIN = [("create", 2, 2, 0, 1, 0, 1, 1, 5), ("set_rating", 0, 0, 8), ("set_rating", 0, 1, 5), ("reset",)]


class Without(unittest.TestCase):
    def test_as_if_the_user_had_never_been_there(self):
        look = look_at(3, 2, 2) + [("objective",), ("sweep",), ("curve", 2)]
        for most in (0, 1, 2, 5, 99, 100):
            forgotten = run(SLOW, *SLOW_RATINGS, *THIRD, ("without", 2, most), *look)[10:]
            never = run(SLOW, *SLOW_RATINGS, ("reset",), ("train", most), *look)[6:]
            self.assertEqual(forgotten, never)

    def test_each_user(self):
        create = ("create", 3, 3, 1, 100, 1, 4, 2, 9)
        ratings = [("set_rating", 0, 0, 8), ("set_rating", 0, 2, 1), ("set_rating", 1, 1, 3), ("set_rating", 2, 2, 10)]
        look = look_at(3, 3, 1) + [("objective",), ("quadratic", 1, 2, 1)]
        for user in range(3):
            others = [rating for rating in ratings if rating[1] != user]
            forgotten = run(create, *ratings, ("train", 3), ("without", user, 20), *look)
            never = run(create, *others, ("reset",), ("train", 20), *look)
            self.assertEqual(forgotten[6:], never[2 + len(others):])

    def test_the_answer(self):
        # What remains trains as it did before the user 1 came: one sweep, and one that changes nothing.
        calls = PLAIN + [("set_rating", 1, 0, 1), ("set_rating", 1, 1, 10), ("train", 4)]
        self.assertEqual(last(*calls, ("without", 1, 100)), [2, 1, 9663676416])
        self.assertEqual(last(*calls, ("without", 1, 2)), [2, 1, 9663676416])
        self.assertEqual(last(*calls, ("without", 1, 1)), [1, 0, 9663676416])
        self.assertEqual(last(*calls, ("without", 1, 0)), [0, 0, 19327352832])

    def test_a_most_of_100_that_does_not_converge(self):
        calls = [SLOW, *SLOW_RATINGS, *THIRD]
        found = run(*calls, ("without", 2, 100), ("certificate",))
        self.assertEqual(found[-2][:2], [100, 0])
        self.assertEqual(found[-1][0], 0)

    def test_all_ratings_of_the_user_are_removed(self):
        calls = PLAIN + [("set_rating", 1, 0, 1)]
        self.assertEqual(run(*calls, ("without", 0, 3), ("status",), ("residuals", 0), ("clear_rating", 1, 0))[6:],
                         [[2, 2, 0, 1, 4], [0], [1]])

    def test_the_only_user_with_ratings(self):
        # Without ratings the base is 0, and the biases stay at 0.
        self.assertEqual(run(*PLAIN, ("train", 3), ("without", 0, 100), ("explain", 0, 0), ("mean_error",))[5:],
                         [[1, 1, 0], [3, 0, 0, 0], [-33]])

    def test_a_user_without_ratings(self):
        self.assertEqual(run(*PLAIN, ("without", 1, 5), ("status",))[4:], [[2, 1, 9663676416], [2, 2, 0, 2, 4]])
        self.assertEqual(last(("create", 1, 1, 1, 64, 0, 1, 1, 0), ("without", 0, 5)), [2, 1, 0])

    def test_the_user_remains(self):
        self.assertEqual(run(*PLAIN, ("without", 0, 5), ("set_rating", 0, 0, 3), ("without", 0, 5))[5:],
                         [[0], [1, 1, 0]])

    def test_wrong_arguments(self):
        for user in (2, 8, LARGEST):
            for most in (0, 100, 101, LARGEST):
                self.assertEqual(last(*PLAIN, ("without", user, most)), [-2])
        for user in (0, 1):
            for most in (101, LARGEST):
                self.assertEqual(last(*PLAIN, ("without", user, most)), [-22])


if __name__ == "__main__":
    unittest.main()
