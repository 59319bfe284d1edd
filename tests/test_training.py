"""sweep, train, objective, curve and certificate."""

import unittest

from helper import last, run

# Training of this model takes more than 200 sweeps.
SLOW = [("create", 2, 2, 2, 4096, 0, 1, 0, 8), ("set_rating", 0, 0, 2), ("set_rating", 0, 1, 1),
        ("set_rating", 1, 0, 6), ("set_rating", 1, 1, 7), ("reset",)]
PLAIN = [("create", 2, 2, 0, 1, 0, 1, 1, 5), ("set_rating", 0, 0, 8), ("set_rating", 0, 1, 5), ("reset",)]


class Sweep(unittest.TestCase):
    def test_steps_in_the_order_of_the_parameters(self):
        order = [("step", kind, number, place) for kind in (0, 1) for number in (0, 1) for place in (0, 1, 2)]
        steps = run(*SLOW, *order, ("objective",))[len(SLOW):]
        swept = run(*SLOW, ("sweep",), ("curve", 2))
        self.assertEqual(swept[-2], [sum(step[0] for step in steps[:-1]), steps[-1][1]])
        self.assertEqual(swept[-1], last(*SLOW, *order, ("curve", 2)))

    def test_count_of_changes(self):
        # User 0 stays at 0; both items move; user 1 has no rating.
        self.assertEqual(last(*PLAIN, ("sweep",)), [2, 2 * (49152 ** 2 + 49152 ** 2)])

    def test_no_ratings(self):
        calls = [("create", 1, 1, 1, 64, 0, 1, 1, 0), ("sweep",), ("sweep",)]
        self.assertEqual(run(*calls)[1:], [[2, 0], [0, 0]])
        free = [("create", 1, 1, 1, 64, 0, 0, 0, 0), ("sweep",), ("objective",)]
        self.assertEqual(run(*free)[1:], [[0, 0], [0, 0, 0, 0]])

    def test_the_base_stays(self):
        calls = [("create", 1, 1, 0, 1, 0, 1, 1, 0), ("set_rating", 0, 0, 10), ("sweep",), ("objective",)]
        error, penalty = 163840 ** 2, 327680 ** 2 + 163840 ** 2
        self.assertEqual(run(*calls)[2:], [[2, error + penalty], [0, error + penalty, error, penalty]])


class Train(unittest.TestCase):
    def test_until_a_sweep_changes_nothing(self):
        self.assertEqual(run(*PLAIN, ("train", 100))[-1], last(*PLAIN, ("train", 2)))
        self.assertEqual(last(*PLAIN, ("train", 1)), [1, 0, 9663676416])
        self.assertEqual(last(*PLAIN, ("train", 2)), [2, 1, 9663676416])

    def test_as_many_sweeps(self):
        sweeps = run(*SLOW, *[("sweep",)] * 5)[len(SLOW):]
        for most in range(1, 6):
            self.assertEqual(last(*SLOW, ("train", most)), [most, 0, sweeps[most - 1][1]])

    def test_a_most_of_0(self):
        objective = last(*SLOW, ("objective",))[1]
        self.assertEqual(run(*SLOW, ("train", 0), ("objective",))[-2:], [[0, 0, objective],
                                                                         last(*SLOW, ("objective",))])
        self.assertEqual(last(*PLAIN, ("train", 100), ("train", 0)), [0, 0, 9663676416])

    def test_a_most_of_100(self):
        found = run(*SLOW, ("train", 100), ("certificate",), ("train", 100), ("train", 100), ("certificate",),
                    ("train", 100))
        self.assertEqual(found[len(SLOW):], [[100, 0, 6016421], [0, 0, 0, 0], [100, 0, 5710812], [40, 1, 5604260], [1],
                                             [1, 1, 5604260]])

    def test_convergence_in_the_last_sweep(self):
        self.assertEqual(run(*SLOW, ("train", 100), ("train", 100), ("train", 39), ("train", 1))[-2:],
                         [[39, 0, 5604260], [1, 1, 5604260]])

    def test_most_outside_its_limits(self):
        for most in (101, 4294967295):
            self.assertEqual(last(*SLOW, ("train", most)), [-22])


class Objective(unittest.TestCase):
    def test_its_parts(self):
        self.assertEqual(last(*PLAIN, ("objective",)), [0, 19327352832, 19327352832, 0])
        # The first factors are 39 and -40.
        calls = [("create", 1, 1, 1, 64, 0, 7, 3, 0), ("set_rating", 0, 0, 10)]
        self.assertEqual(last(*calls, ("objective",)), [0, 656920 ** 2 + 7 * 3121, 656920 ** 2, 7 * 3121])
        bias = last(*calls, ("step", 0, 0, 0))[2]
        self.assertEqual(last(*calls, ("step", 0, 0, 0), ("objective",))[2:],
                         [(656920 - bias) ** 2, 7 * 3121 + 3 * bias ** 2])

    def test_no_ratings(self):
        self.assertEqual(last(("create", 1, 1, 1, 64, 0, 7, 3, 0), ("objective",)), [0, 7 * 3121, 0, 7 * 3121])
        self.assertEqual(last(("create", 1, 1, 0, 64, 0, 7, 3, 0), ("objective",)), [0, 0, 0, 0])

    def test_both_penalties_at_their_ends(self):
        calls = [("create", 1, 1, 1, 64, 0, 100000000, 1000, 0), ("set_rating", 0, 0, 10), ("objective",)]
        self.assertEqual(last(*calls)[3], 312100000000)
        calls = [("create", 1, 1, 1, 64, 0, 0, 0, 0), ("set_rating", 0, 0, 10), ("sweep",), ("objective",)]
        self.assertEqual(last(*calls)[3], 0)


class Curve(unittest.TestCase):
    def test_the_objective_after_each_sweep(self):
        sweeps = [answer[1] for answer in run(*SLOW, *[("sweep",)] * 20)[len(SLOW):]]
        for count in (1, 2, 19, 20):
            self.assertEqual(last(*SLOW, ("curve", count)), [count] + sweeps[:count])

    def test_a_count_of_0(self):
        self.assertEqual(last(*SLOW, ("curve", 0)), [0])

    def test_beyond_convergence(self):
        self.assertEqual(last(*PLAIN, ("curve", 4)), [4] + [9663676416] * 4)

    def test_from_the_present_parameters_on(self):
        self.assertEqual(last(*SLOW, ("sweep",), ("sweep",), ("curve", 2))[1:], last(*SLOW, ("curve", 4))[3:])

    def test_the_parameters_do_not_change(self):
        look = [("objective",), ("certificate",), ("step", 1, 1, 2), ("sweep",)]
        self.assertEqual(run(*SLOW, ("curve", 20), *look)[-4:], run(*SLOW, *look)[-4:])

    def test_the_ratings_do_not_change(self):
        self.assertEqual(run(*PLAIN, ("curve", 3), ("clear_rating", 0, 0), ("clear_rating", 0, 1))[-2:], [[8], [5]])

    def test_count_outside_its_limits(self):
        for count in (21, 4294967295):
            self.assertEqual(last(*SLOW, ("curve", count)), [-22])


class Certificate(unittest.TestCase):
    def test_the_first_parameter_that_would_change(self):
        self.assertEqual(last(*PLAIN, ("certificate",)), [0, 1, 0, 0])
        self.assertEqual(last(*PLAIN, ("step", 1, 0, 0), ("certificate",)), [0, 0, 0, 0])
        self.assertEqual(last(*PLAIN, ("set_rating", 1, 1, 9), ("certificate",)), [0, 0, 1, 0])
        self.assertEqual(last(*PLAIN, ("step", 1, 0, 0), ("step", 0, 0, 0), ("certificate",)), [0, 1, 0, 0])

    def test_a_place_behind_the_bias(self):
        # Without ratings a bias of 0 is minimal; no first factor of this model is 0.
        create = ("create", 1, 1, 2, 64, 0, 1, 1, 1)
        self.assertEqual(last(create, ("certificate",)), [0, 0, 0, 1])
        self.assertEqual(last(create, ("step", 0, 0, 1), ("certificate",)), [0, 0, 0, 2])
        self.assertEqual(last(create, ("step", 0, 0, 1), ("step", 0, 0, 2), ("certificate",)), [0, 1, 0, 1])

    def test_minimal(self):
        self.assertEqual(last(*PLAIN, ("train", 5), ("certificate",)), [1])
        self.assertEqual(last(("create", 1, 1, 0, 1, 0, 1, 1, 0), ("certificate",)), [1])
        self.assertEqual(last(("create", 2, 2, 3, 64, 0, 0, 0, 0), ("certificate",)), [1])

    def test_a_value_as_good_as_the_present_one(self):
        # The minimum of the user's bias is at a half, so the first parameter that changes is an item's.
        calls = [("create", 1, 3, 0, 1, 0, 1, 1, 0), ("set_rating", 0, 0, 1), ("set_rating", 0, 1, 2),
                 ("set_rating", 0, 2, 2), ("reset",), ("certificate",)]
        self.assertEqual(last(*calls), [0, 1, 0, 0])

    def test_it_changes_nothing(self):
        self.assertEqual(last(*SLOW, ("certificate",), ("sweep",)), last(*SLOW, ("sweep",)))


if __name__ == "__main__":
    unittest.main()
