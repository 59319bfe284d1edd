"""create, and the first parameters."""

import unittest

from helper import SlowModel, fnv, last, run

GOOD = [2, 3, 1, 64, 0, 1, 1, 5]
BOUNDS = [(1, 8), (1, 8), (0, 3), (1, 4096), (0, 1), (0, 100000000), (0, 1000), (0, 4294967295)]


def values_after(users, items, factors, calls):
    """All parameters after the calls: a step tells the value before it, and changes no other parameter."""
    places = [("step", kind, number, place) for kind in (0, 1) for number in range((users, items)[kind])
              for place in range(factors + 1)]
    return [answer[1] for answer in run(*calls, *places)[len(calls):]]


class Create(unittest.TestCase):
    def test_count_of_parameters(self):
        for users, items, factors, count in [(1, 1, 0, 2), (1, 2, 1, 6), (2, 3, 0, 5), (8, 8, 3, 64), (3, 5, 2, 24)]:
            self.assertEqual(run(("create", users, items, factors, 9, 0, 1, 1, 0)), [[count]])

    def test_ends_of_the_limits(self):
        for position, bounds in enumerate(BOUNDS):
            for end in bounds:
                settings = GOOD[:position] + [end] + GOOD[position + 1:]
                count = (settings[0] + settings[1]) * (1 + settings[2])
                self.assertEqual(run(("create", *settings)), [[count]], settings)

    def test_outside_the_limits(self):
        for position, (lowest, highest) in enumerate(BOUNDS[:7]):
            for wrong in (lowest - 1, highest + 1, 4294967295):
                if wrong >= 0:
                    settings = GOOD[:position] + [wrong] + GOOD[position + 1:]
                    self.assertEqual(run(("create", *settings)), [[-22]], settings)

    def test_a_failed_create_makes_no_model(self):
        self.assertEqual(run(("create", 0, 1, 0, 1, 0, 1, 1, 0), ("objective",)), [[-22], [-11]])

    def test_a_failed_create_keeps_the_model(self):
        before = [("create", *GOOD), ("set_rating", 1, 2, 9), ("reset",), ("sweep",)]
        look = [("objective",), ("set_rating", 1, 2, 8), ("curve", 3), ("step", 1, 2, 1)]
        for position, (lowest, highest) in enumerate(BOUNDS[:7]):
            settings = GOOD[:position] + [highest + 1] + GOOD[position + 1:]
            found = run(*before, ("create", *settings), *look)
            self.assertEqual(found[4], [-22])
            self.assertEqual(found[5:], run(*before, *look)[4:])

    def test_create_again_makes_a_new_model(self):
        found = run(("create", *GOOD), ("set_rating", 1, 2, 9), ("reset",), ("sweep",),
                    ("create", 2, 4, 0, 64, 0, 1, 1, 5), ("objective",), ("clear_rating", 1, 2),
                    ("set_rating", 1, 3, 4), ("reset",), ("step", 0, 0, 1))
        self.assertEqual(found[4:], [[6], [0, 0, 0, 0], [-33], [0], [262144], [-2]])


class FirstParameters(unittest.TestCase):
    def test_the_hash_that_the_tests_use(self):
        self.assertEqual(fnv(b""), 0xCBF29CE484222325)
        self.assertEqual(fnv(b"foobar"), 0x85944171F73967E8)

    def test_first_factors(self):
        for seed in (0, 1, 5, 255, 256, 65536, 16777216, 305419896, 4294967295):
            for limit in (1, 2, 63, 64, 65, 4096):
                for nonnegative in (0, 1):
                    create = ("create", 2, 3, 3, limit, nonnegative, 1, 1, seed)
                    slow = SlowModel(*create[1:])
                    self.assertEqual(values_after(2, 3, 3, [create]), list(slow.values.values()), create)

    def test_written_first_factors(self):
        # The first user's and the first item's factor, from hashes worked out apart from the program.
        self.assertEqual(values_after(1, 1, 1, [("create", 1, 1, 1, 64, 0, 1, 1, 0)]), [0, 39, 0, -40])
        self.assertEqual(values_after(1, 1, 1, [("create", 1, 1, 1, 4096, 0, 1, 1, 1)]), [0, 45, 0, 59])
        self.assertEqual(values_after(1, 1, 1, [("create", 1, 1, 1, 4096, 1, 1, 1, 0)]), [0, 42, 0, 14])

    def test_no_first_factor_is_beyond_64(self):
        for nonnegative, lowest in ((0, -64), (1, 0)):
            found = []
            for seed in range(40):
                found += values_after(4, 4, 3, [("create", 4, 4, 3, 4096, nonnegative, 0, 0, seed)])
            self.assertEqual((min(found), max(found)), (lowest, 64))

    def test_the_base_is_0_without_ratings(self):
        # The residual of a first rating is then all of it: no factors, and all biases 0.
        calls = [("create", 1, 1, 0, 64, 0, 1, 1, 5), ("set_rating", 0, 0, 7), ("objective",)]
        self.assertEqual(last(*calls), [0, (7 * 65536) ** 2, (7 * 65536) ** 2, 0])


if __name__ == "__main__":
    unittest.main()
