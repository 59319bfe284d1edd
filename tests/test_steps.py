"""step and quadratic."""

import unittest

from helper import last, run


class Quadratic(unittest.TestCase):
    def test_a_bias(self):
        calls = [("create", 2, 2, 0, 1, 0, 1, 3, 5), ("set_rating", 0, 0, 8), ("set_rating", 0, 1, 5), ("reset",)]
        self.assertEqual(last(*calls, ("quadratic", 0, 0, 0)), [0, 5, 0])
        self.assertEqual(last(*calls, ("quadratic", 0, 1, 0)), [0, 3, 0])
        self.assertEqual(last(*calls, ("quadratic", 1, 0, 0)), [0, 4, 98304])
        self.assertEqual(last(*calls, ("quadratic", 1, 1, 0)), [0, 4, -98304])

    def test_a_factor(self):
        # The first factors are 39 and -40.
        calls = [("create", 1, 1, 1, 64, 0, 7, 3, 0), ("set_rating", 0, 0, 10)]
        self.assertEqual(last(*calls, ("quadratic", 0, 0, 1)), [0, 1607, -26214400])
        self.assertEqual(last(*calls, ("quadratic", 1, 0, 1)), [0, 1528, 25559040])

    def test_the_slope_is_that_of_the_value_0(self):
        calls = [("create", 1, 1, 0, 1, 0, 0, 1, 0), ("set_rating", 0, 0, 10)]
        self.assertEqual(run(*calls, ("quadratic", 0, 0, 0), ("step", 0, 0, 0), ("quadratic", 0, 0, 0),
                             ("quadratic", 1, 0, 0))[2:],
                         [[0, 2, 655360], [1, 0, 327680], [0, 2, 655360], [0, 2, 327680]])

    def test_the_penalty_alone_without_ratings(self):
        calls = [("create", 2, 2, 1, 64, 0, 100000000, 1000, 0)]
        self.assertEqual(last(*calls, ("quadratic", 1, 1, 0)), [0, 1000, 0])
        self.assertEqual(last(*calls, ("quadratic", 1, 1, 1)), [0, 100000000, 0])

    def test_it_changes_nothing(self):
        calls = [("create", 1, 1, 1, 64, 0, 7, 3, 0), ("set_rating", 0, 0, 10)]
        self.assertEqual(last(*calls, ("quadratic", 0, 0, 1), ("quadratic", 0, 0, 0), ("objective",)),
                         last(*calls, ("objective",)))


class Step(unittest.TestCase):
    def test_the_values_before_and_after(self):
        calls = [("create", 1, 1, 0, 1, 0, 0, 1, 0), ("set_rating", 0, 0, 10)]
        self.assertEqual(run(*calls, ("step", 0, 0, 0), ("step", 0, 0, 0), ("step", 1, 0, 0), ("step", 0, 0, 0),
                             ("step", 1, 0, 0))[2:],
                         [[1, 0, 327680], [0, 327680, 327680], [1, 0, 163840], [1, 327680, 245760],
                          [1, 163840, 204800]])

    def test_curvature_0(self):
        calls = [("create", 2, 2, 1, 64, 0, 0, 0, 0), ("set_rating", 0, 0, 10)]
        self.assertEqual(run(*calls, ("quadratic", 0, 1, 0), ("step", 0, 1, 0))[2:], [[0, 0, 0], [0, 0, 0]])
        self.assertEqual(run(*calls, ("quadratic", 1, 1, 1), ("step", 1, 1, 1))[2], [0, 0, 0])
        is_changed, before, after = last(*calls, ("step", 1, 1, 1))
        self.assertEqual(is_changed, 0)
        self.assertNotEqual(before, 0)
        self.assertEqual(before, after)

    def test_curvature_0_with_a_rating(self):
        # The item's factor is 0 at first, so that the user's doesn't matter.
        calls = [("create", 1, 1, 1, 1, 0, 0, 0, 475), ("set_rating", 0, 0, 10)]
        self.assertEqual(run(*calls, ("quadratic", 0, 0, 1), ("step", 0, 0, 1))[2:], [[0, 0, 0], [0, 1, 1]])

    def test_a_penalty_brings_to_0(self):
        self.assertEqual(run(("create", 1, 1, 1, 64, 0, 1, 0, 0), ("step", 0, 0, 1), ("step", 0, 0, 1))[1:],
                         [[1, 39, 0], [0, 0, 0]])

    def test_a_half_is_rounded_up(self):
        calls = [("create", 1, 3, 0, 1, 0, 1, 1, 0), ("set_rating", 0, 0, 1), ("set_rating", 0, 1, 1),
                 ("set_rating", 0, 2, 2), ("reset",)]
        self.assertEqual(run(*calls, ("quadratic", 1, 0, 0), ("step", 1, 0, 0))[5:], [[0, 2, -21845], [1, 0, -10922]])
        self.assertEqual(run(*calls, ("quadratic", 1, 2, 0), ("step", 1, 2, 0))[5:], [[0, 2, 43691], [1, 0, 21846]])

    def test_less_and_more_than_a_half(self):
        calls = [("create", 1, 3, 0, 1, 0, 1, 2, 0), ("set_rating", 0, 0, 1), ("set_rating", 0, 1, 1),
                 ("set_rating", 0, 2, 2), ("reset",)]
        self.assertEqual(run(*calls, ("quadratic", 1, 0, 0), ("step", 1, 0, 0))[5:], [[0, 3, -21845], [1, 0, -7282]])
        self.assertEqual(run(*calls, ("quadratic", 1, 2, 0), ("step", 1, 2, 0))[5:], [[0, 3, 43691], [1, 0, 14564]])

    def test_a_value_as_good_as_the_present_one(self):
        # The minimum is at a half: 1 gives the same objective as the present 0.
        calls = [("create", 1, 3, 0, 1, 0, 1, 1, 0), ("set_rating", 0, 0, 1), ("set_rating", 0, 1, 2),
                 ("set_rating", 0, 2, 2), ("reset",)]
        self.assertEqual(run(*calls, ("quadratic", 0, 0, 0), ("step", 0, 0, 0))[5:], [[0, 4, 2], [0, 0, 0]])

    def test_upper_end_of_a_bias(self):
        beyond = [("create", 1, 1, 1, 64, 0, 0, 0, 0), ("set_rating", 0, 0, 10)]
        self.assertEqual(run(*beyond, ("quadratic", 0, 0, 0), ("step", 0, 0, 0), ("step", 0, 0, 0))[2:],
                         [[0, 1, 656920], [1, 0, 655360], [0, 655360, 655360]])
        just = [("create", 1, 1, 0, 1, 0, 0, 0, 0), ("set_rating", 0, 0, 10)]
        self.assertEqual(last(*just, ("step", 1, 0, 0)), [1, 0, 655360])

    def test_lower_end_of_a_bias(self):
        calls = [("create", 2, 2, 1, 4096, 0, 0, 0, 0), ("set_rating", 0, 0, 10), ("step", 1, 0, 0),
                 ("set_rating", 1, 1, 10), ("step", 0, 1, 1), ("clear_rating", 1, 1), ("set_rating", 1, 0, 1)]
        self.assertEqual(run(*calls, ("quadratic", 0, 1, 0), ("step", 0, 1, 0))[7:],
                         [[0, 1, -753664], [1, 0, -655360]])

    def test_limit_1(self):
        for seed, slope, change in [(14, 655360, [1, -1, 1]), (7, -655360, [1, 1, -1]), (0, -655360, [1, 0, -1])]:
            calls = [("create", 1, 1, 1, 1, 0, 0, 0, seed), ("set_rating", 0, 0, 10)]
            self.assertEqual(run(*calls, ("quadratic", 0, 0, 1), ("step", 0, 0, 1))[2:], [[0, 1, slope], change])

    def test_limit_4096(self):
        for seed, form, change in [(1, [0, 3481, 38666240], [1, 45, 4096]), (0, [0, 1600, -26214400], [1, 39, -4096])]:
            calls = [("create", 1, 1, 1, 4096, 0, 0, 0, seed), ("set_rating", 0, 0, 10)]
            self.assertEqual(run(*calls, ("quadratic", 0, 0, 1), ("step", 0, 0, 1))[2:], [form, change])

    def test_a_nonnegative_model(self):
        high = [("create", 1, 1, 1, 4096, 1, 0, 0, 0), ("set_rating", 0, 0, 10)]
        self.assertEqual(last(*high, ("step", 0, 0, 1)), [1, 42, 4096])
        low = [("create", 1, 2, 1, 4096, 1, 0, 0, 0), ("set_rating", 0, 0, 1), ("set_rating", 0, 1, 10), ("reset",),
               ("clear_rating", 0, 1)]
        self.assertEqual(run(*low, ("quadratic", 0, 0, 1), ("step", 0, 0, 1))[5:], [[0, 196, -4128768], [1, 42, 0]])
        # A bias may be below 0 all the same: 65536 - 360448 - 42 * 14.
        self.assertEqual(last(*low, ("step", 0, 0, 0)), [1, 0, -295500])

    def test_wrong_arguments(self):
        create = ("create", 2, 3, 1, 64, 0, 1, 1, 0)
        for name in ("step", "quadratic"):
            for parameter in [(0, 1, 1), (1, 2, 1), (0, 0, 0)]:
                self.assertNotEqual(last(create, (name, *parameter)), [-2])
            for parameter in [(2, 0, 0), (0, 2, 0), (1, 3, 0), (0, 0, 2), (1, 2, 2), (4294967295, 0, 0),
                              (0, 4294967295, 0), (0, 0, 4294967295)]:
                self.assertEqual(last(create, (name, *parameter)), [-2], (name, parameter))


if __name__ == "__main__":
    unittest.main()
