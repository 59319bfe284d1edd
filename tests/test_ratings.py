"""set_rating, clear_rating, delete_user and reset."""

import unittest

from helper import last, run

PLAIN = ("create", 3, 4, 0, 1, 0, 1, 1, 0)


class SetRating(unittest.TestCase):
    def test_the_previous_rating(self):
        self.assertEqual(run(PLAIN, ("set_rating", 0, 0, 1), ("set_rating", 0, 0, 10), ("set_rating", 0, 0, 10),
                             ("set_rating", 2, 3, 5), ("set_rating", 0, 0, 2)),
                         [[7], [0], [1], [10], [0], [10]])

    def test_each_pair_has_its_own_rating(self):
        calls = [("set_rating", user, item, 1 + user + 2 * item) for user in range(3) for item in range(4)]
        self.assertEqual(run(PLAIN, *calls)[1:], [[0]] * 12)
        again = [("clear_rating", user, item) for user in range(3) for item in range(4)]
        self.assertEqual(run(PLAIN, *calls, *again)[13:], [[call[3]] for call in calls])

    def test_wrong_arguments(self):
        for call in [("set_rating", 3, 0, 5), ("set_rating", 0, 4, 5), ("set_rating", 4294967295, 0, 5),
                     ("set_rating", 0, 4294967295, 5)]:
            self.assertEqual(last(PLAIN, call), [-2])
        for value in (0, 11, 4294967295):
            self.assertEqual(last(PLAIN, ("set_rating", 2, 3, value)), [-22])

    def test_the_pair_is_checked_before_the_value(self):
        self.assertEqual(last(PLAIN, ("set_rating", 3, 0, 0)), [-2])
        self.assertEqual(last(PLAIN, ("set_rating", 0, 4, 11)), [-2])

    def test_parameters_stay_as_they_are(self):
        before = [("create", 2, 2, 1, 64, 0, 5, 2, 3), ("set_rating", 0, 0, 8), ("set_rating", 0, 1, 3), ("reset",),
                  ("sweep",)]
        look = [("objective",)]
        back = [("set_rating", 0, 0, 8), ("clear_rating", 1, 1), ("set_rating", 0, 1, 3)]
        changes = [("set_rating", 0, 0, 2), ("set_rating", 1, 1, 9), ("delete_user", 0)]
        self.assertEqual(last(*before, *changes, ("set_rating", 0, 0, 8), ("set_rating", 0, 1, 3),
                              ("clear_rating", 1, 1), *look), last(*before, *look))
        self.assertEqual(last(*before, *changes[:2], *back, *look), last(*before, *look))
        self.assertEqual(last(*before, *changes, *look)[3], last(*before, *look)[3])


class ClearRating(unittest.TestCase):
    def test_the_rating_is_removed(self):
        self.assertEqual(run(PLAIN, ("set_rating", 0, 1, 7), ("set_rating", 1, 0, 4), ("clear_rating", 0, 1),
                             ("clear_rating", 0, 1), ("set_rating", 0, 1, 2), ("clear_rating", 1, 0), ("reset",)),
                         [[7], [0], [0], [7], [-33], [0], [4], [131072]])

    def test_wrong_arguments(self):
        for call in [("clear_rating", 3, 0), ("clear_rating", 0, 4), ("clear_rating", 4294967295, 4294967295)]:
            self.assertEqual(last(PLAIN, call), [-2])
        self.assertEqual(last(PLAIN, ("clear_rating", 2, 3)), [-33])


class DeleteUser(unittest.TestCase):
    def test_all_ratings_of_the_user_alone(self):
        calls = [("set_rating", 1, 0, 3), ("set_rating", 1, 3, 4), ("set_rating", 0, 0, 9), ("set_rating", 2, 3, 8)]
        self.assertEqual(run(PLAIN, *calls, ("delete_user", 1), ("delete_user", 1), ("clear_rating", 1, 0),
                             ("clear_rating", 0, 0), ("clear_rating", 2, 3))[5:], [[2], [0], [-33], [9], [8]])

    def test_no_ratings_and_all_ratings(self):
        calls = [("set_rating", 2, item, 3) for item in range(4)]
        self.assertEqual(run(PLAIN, ("delete_user", 2), *calls, ("delete_user", 2))[1::5], [[0], [4]])

    def test_wrong_arguments(self):
        for user in (3, 8, 4294967295):
            self.assertEqual(last(PLAIN, ("delete_user", user)), [-2])


class Reset(unittest.TestCase):
    def test_the_mean_is_rounded_down(self):
        for ratings, base in [([8, 5], 425984), ([1], 65536), ([10], 655360), ([1, 1, 2], 87381), ([1, 2, 2], 109226),
                              ([10, 10, 9, 10], 638976)]:
            calls = [("set_rating", place % 3, place, rating) for place, rating in enumerate(ratings)]
            self.assertEqual(last(PLAIN, *calls, ("reset",)), [base])

    def test_no_ratings(self):
        self.assertEqual(run(PLAIN, ("reset",), ("set_rating", 0, 0, 8), ("reset",), ("clear_rating", 0, 0),
                             ("reset",))[1::2], [[0], [524288], [0]])

    def test_all_parameters_become_the_first_ones(self):
        create = ("create", 2, 2, 2, 64, 0, 5, 2, 3)
        ratings = [("set_rating", 0, 0, 8), ("set_rating", 0, 1, 3), ("set_rating", 1, 1, 5)]
        look = [("objective",), ("step", 0, 1, 1), ("step", 0, 1, 2), ("step", 1, 1, 1), ("step", 1, 1, 0), ("curve", 3)]
        untrained = run(create, *ratings, ("reset",), *look)
        trained = run(create, *ratings, ("train", 9), ("reset",), *look)
        self.assertEqual(trained[-len(look):], untrained[-len(look):])
        self.assertEqual(trained[5], [349525])

    def test_ratings_stay_as_they_are(self):
        self.assertEqual(run(PLAIN, ("set_rating", 0, 0, 8), ("reset",), ("clear_rating", 0, 0))[3], [8])


if __name__ == "__main__":
    unittest.main()
