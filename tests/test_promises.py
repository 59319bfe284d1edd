"""The requirements, on many models: 1, 2, 3, 5 and 7, and every answer beside that of the definitions."""

import random
import unittest

from helper import OTHER_CALLS, run, slow_run


def sample(seed):
    """A create, calls that fill the model, and its parameters; the same for the same seed."""
    chance = random.Random(seed)
    users, items, factors = chance.randint(1, 4), chance.randint(1, 4), chance.randint(0, 3)
    limit = chance.choice([1, 2, 7, 64, 300, 4096])
    create = ("create", users, items, factors, limit, chance.randint(0, 1), chance.choice([0, 1, 5, 1000, 10 ** 6]),
              chance.choice([0, 0, 1, 3, 1000]), chance.randrange(1 << 32))
    fill = [("set_rating", chance.randrange(users), chance.randrange(items), chance.randint(1, 10))
            for _ in range(chance.randint(0, 12))]
    if chance.randint(0, 1):
        fill.append(("reset",))
    order = [(kind, number, place) for kind in (0, 1) for number in range((users, items)[kind])
             for place in range(factors + 1)]
    return chance, create, fill, order


def mixed_calls(chance, create, order):
    """Calls of all kinds on the model, each in order."""
    makers = [
        lambda: ("set_rating", chance.randrange(create[1]), chance.randrange(create[2]), chance.randint(1, 10)),
        lambda: ("clear_rating", chance.randrange(create[1]), chance.randrange(create[2])),
        lambda: ("delete_user", chance.randrange(create[1])),
        lambda: ("reset",),
        lambda: ("step", *chance.choice(order)),
        lambda: ("sweep",),
        lambda: ("train", chance.randint(0, 4)),
        lambda: ("objective",),
        lambda: ("curve", chance.randint(0, 4)),
        lambda: ("certificate",),
        lambda: ("quadratic", *chance.choice(order)),
    ]
    return [chance.choice(makers)() for _ in range(20)]


class Promises(unittest.TestCase):
    def test_every_answer_beside_the_definitions(self):
        for seed in range(150):
            chance, create, fill, order = sample(seed)
            calls = [create, *fill, *mixed_calls(chance, create, order)]
            self.assertEqual(run(*calls), slow_run(*calls), calls)

    def test_1_a_step_never_increases_the_objective(self):
        for seed in range(120):
            chance, create, fill, order = sample(seed)
            steps = [("step", *chance.choice(order)) for _ in range(15)]
            calls = [create, *fill, ("objective",)]
            for step in steps:
                calls += [step, ("objective",)]
            found = run(*calls)[len(fill) + 1:]
            for before, step, after in zip(found[0::2], found[1::2], found[2::2]):
                self.assertEqual(step[0], int(step[1] != step[2]))
                if step[0]:
                    self.assertLess(after[1], before[1])
                else:
                    self.assertEqual(after, before)

    def test_2_no_other_value_of_the_range_is_better_after_a_step(self):
        for seed in range(120):
            chance, create, fill, order = sample(seed)
            for kind, number, place in chance.sample(order, min(4, len(order))):
                parameter = (kind, number, place)
                found = run(create, *fill, ("quadratic", *parameter), ("step", *parameter), ("objective",))
                curvature, slope = found[-3][1:]
                present = found[-2][2]
                lowest = -655360 if place == 0 else 0 if create[5] else -create[4]
                highest = 655360 if place == 0 else create[4]
                near = range(max(lowest, present - 300), min(highest, present + 300) + 1)
                for value in [lowest, highest, *near, *range(lowest, highest + 1, 997)]:
                    self.assertGreaterEqual(curvature * value ** 2 - 2 * slope * value,
                                            curvature * present ** 2 - 2 * slope * present)

    def test_3_training_that_has_converged_has_a_certificate(self):
        converged = 0
        for seed in range(150):
            chance, create, fill, order = sample(seed)
            found = run(create, *fill, ("train", chance.choice([3, 20, 100])), ("certificate",), ("sweep",))
            if found[-3][1]:
                converged += 1
                self.assertEqual(found[-2], [1])
                self.assertEqual(found[-1], [0, found[-3][2]])
        self.assertGreater(converged, 50)

    def test_5_objective_not_negative_and_parameters_in_their_ranges(self):
        for seed in range(150):
            chance, create, fill, order = sample(seed)
            look = [("objective",)] + [("step", *parameter) for parameter in order]
            for work in ([], [("train", 5)]):
                found = run(create, *fill, *work, *look)[-len(look):]
                self.assertEqual(found[0][1], found[0][2] + found[0][3])
                self.assertGreaterEqual(min(found[0]), 0)
                for (kind, number, place), step in zip(order, found[1:]):
                    lowest = -655360 if place == 0 else 0 if create[5] else -create[4]
                    highest = 655360 if place == 0 else create[4]
                    for value in step[1:]:
                        self.assertTrue(lowest <= value <= highest)

    def test_7_a_failed_call_leaves_the_state(self):
        before = [("create", 2, 3, 2, 100, 0, 5, 2, 77), ("set_rating", 0, 0, 8), ("set_rating", 0, 1, 3),
                  ("set_rating", 1, 1, 5), ("reset",), ("sweep",)]
        order = [("step", kind, number, place) for kind in (0, 1) for number in range(2 + kind) for place in range(3)]
        look = [("objective",), ("certificate",), ("curve", 2), *order, ("clear_rating", 0, 0), ("clear_rating", 0, 1),
                ("clear_rating", 1, 1), ("clear_rating", 1, 0), ("reset",), ("objective",)]
        wrong = [
            ("create", 0, 3, 2, 100, 0, 5, 2, 77), ("create", 9, 3, 2, 100, 0, 5, 2, 77),
            ("create", 2, 0, 2, 100, 0, 5, 2, 77), ("create", 2, 3, 4, 100, 0, 5, 2, 77),
            ("create", 2, 3, 2, 0, 0, 5, 2, 77), ("create", 2, 3, 2, 4097, 0, 5, 2, 77),
            ("create", 2, 3, 2, 100, 2, 5, 2, 77), ("create", 2, 3, 2, 100, 0, 100000001, 2, 77),
            ("create", 2, 3, 2, 100, 0, 5, 1001, 77), ("set_rating", 2, 0, 9), ("set_rating", 0, 3, 9),
            ("set_rating", 0, 0, 0), ("set_rating", 0, 0, 11), ("clear_rating", 2, 0), ("clear_rating", 0, 3),
            ("clear_rating", 1, 0), ("delete_user", 2), ("step", 2, 0, 0), ("step", 0, 2, 0), ("step", 1, 3, 0),
            ("step", 0, 0, 3), ("train", 101), ("curve", 21), ("quadratic", 2, 0, 0), ("quadratic", 0, 2, 0),
            ("quadratic", 0, 0, 3),
        ]
        expected = run(*before, *look)[len(before):]
        for call in wrong:
            found = run(*before, call, *look)[len(before):]
            self.assertEqual(len(found[0]), 1, call)
            self.assertLess(found[0][0], 0, call)
            self.assertEqual(found[1:], expected, call)


class NoModel(unittest.TestCase):
    def test_every_call_but_create_fails_before_all_other_checks(self):
        self.assertEqual(run(*OTHER_CALLS), [[-11]] * len(OTHER_CALLS))

    def test_also_the_calls_of_the_whole_interface(self):
        self.assertEqual(run((12, 0, 0, 0), (13, 0, 0, 0, 0, 0), (14, 0, 0), (15, 0, 0), (16, 0), (17,), (18, 0, 1),
                             (19, 0, 0, 1), (20,), (20, 0), (21, 1), (21, 1, 0, 5), (22, 0, 1), (23,)), [[-11]] * 14)

    def test_until_a_create_succeeds(self):
        self.assertEqual(run(("train", 101), ("create", 1, 9, 0, 1, 0, 1, 1, 0), ("train", 101),
                             ("create", 1, 1, 0, 1, 0, 1, 1, 0), ("train", 101)),
                         [[-11], [-22], [-11], [2], [-22]])


if __name__ == "__main__":
    unittest.main()
