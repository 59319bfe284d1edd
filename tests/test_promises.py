"""The requirements, on many models, and every answer beside that of the definitions."""

import random
import unittest

from helper import NUMBERS, OTHER_CALLS, look_at, order_of, run, slow_run


def sample(seed):
    """A create, calls that fill the model, and its parameters; the same for the same seed."""
    chance = random.Random(seed)
    users, items, factors = chance.randint(1, 4), chance.randint(1, 4), chance.randint(0, 3)
    limit = chance.choice([1, 2, 7, 64, 300, 4096])
    create = ("create", users, items, factors, limit, chance.randint(0, 1), chance.choice([0, 1, 5, 1000, 10 ** 6]),
              chance.choice([0, 0, 1, 3, 1000]), chance.randrange(1 << 32))
    fill = [("set_rating", chance.randrange(users), chance.randrange(items), chance.randint(1, 10))
            for _ in range(chance.randint(0, 12))]
    if chance.randint(0, 1):
        fill.append(("reset",))
    return chance, create, fill, order_of(users, items, factors)


def new_ratings(chance, items):
    """Ratings of a new user, in order."""
    rated = sorted(chance.sample(range(items), chance.randint(0, items)))
    return [number for item in rated for number in (item, chance.randint(1, 10))]


def new_value(chance, create):
    """A parameter's sign and size; it may be outside its range."""
    size = chance.choice([chance.randint(0, 9), chance.randint(0, create[4] + 1), chance.randint(0, 655361)])
    return chance.randint(0, 1), size


def mixed_calls(chance, create, order):
    """Calls of all kinds on the model, whose rows and places are there."""
    rows = [parameter[:2] for parameter in order]
    makers = [
        lambda: ("set_rating", chance.randrange(create[1]), chance.randrange(create[2]), chance.randint(1, 10)),
        lambda: ("clear_rating", chance.randrange(create[1]), chance.randrange(create[2])),
        lambda: ("delete_user", chance.randrange(create[1])),
        lambda: ("reset",),
        lambda: ("step", *chance.choice(order)),
        lambda: ("sweep",),
        lambda: ("train", chance.randint(0, 4)),
        lambda: ("objective",),
        lambda: ("curve", chance.randint(0, 4)),
        lambda: ("certificate",),
        lambda: ("quadratic", *chance.choice(order)),
        lambda: ("parameter", *chance.choice(order)),
        lambda: ("set_parameter", *chance.choice(order), *new_value(chance, create)),
        lambda: ("predict", chance.randrange(create[1]), chance.randrange(create[2])),
        lambda: ("explain", chance.randrange(create[1]), chance.randrange(create[2])),
        lambda: ("residuals", chance.randrange(create[1])),
        lambda: ("mean_error",),
        lambda: ("recommend", chance.randrange(create[1]), chance.randint(0, 5)),
        lambda: ("similar", *chance.choice(rows), chance.randint(0, 5)),
        lambda: ("fold_in", *new_ratings(chance, create[2])),
        lambda: ("recommend_new", chance.randint(0, 5), *new_ratings(chance, create[2])),
        lambda: ("without", chance.randrange(create[1]), chance.randint(0, 4)),
        lambda: ("status",),
    ]
    return [chance.choice(makers)() for _ in range(40)]


# A model, all that it holds, and what comes of it.
STATE = [("create", 2, 3, 2, 100, 0, 5, 2, 77), ("set_rating", 0, 0, 8), ("set_rating", 0, 1, 3),
         ("set_rating", 1, 1, 5), ("reset",), ("sweep",), ("set_parameter", 1, 0, 2, 0, 33)]
LOOK = look_at(2, 3, 2) + [("objective",), ("certificate",), ("curve", 2), ("sweep",), ("reset",), ("objective",)]
EXPECTED = run(*STATE, *LOOK)[len(STATE):]


class Promises(unittest.TestCase):
    def test_every_answer_beside_the_definitions(self):
        for seed in range(150):
            chance, create, fill, order = sample(seed)
            calls = [create, *fill, *mixed_calls(chance, create, order)]
            self.assertEqual(run(*calls), slow_run(*calls), calls)

    def test_1_a_step_never_increases_the_objective(self):
        for seed in range(120):
            chance, create, fill, order = sample(seed)
            steps = [("step", *chance.choice(order)) for _ in range(15)]
            calls = [create, *fill, ("objective",)]
            for step in steps:
                calls += [step, ("objective",)]
            found = run(*calls)[len(fill) + 1:]
            for before, step, after in zip(found[0::2], found[1::2], found[2::2]):
                self.assertEqual(step[0], int(step[1] != step[2]))
                if step[0]:
                    self.assertLess(after[1], before[1])
                else:
                    self.assertEqual(after, before)

    def test_2_no_other_value_of_the_range_is_better_after_a_step(self):
        for seed in range(120):
            chance, create, fill, order = sample(seed)
            for kind, number, place in chance.sample(order, min(4, len(order))):
                parameter = (kind, number, place)
                found = run(create, *fill, ("quadratic", *parameter), ("step", *parameter), ("objective",))
                curvature, slope = found[-3][1:]
                present = found[-2][2]
                lowest = -655360 if place == 0 else 0 if create[5] else -create[4]
                highest = 655360 if place == 0 else create[4]
                near = range(max(lowest, present - 300), min(highest, present + 300) + 1)
                for value in [lowest, highest, *near, *range(lowest, highest + 1, 997)]:
                    self.assertGreaterEqual(curvature * value ** 2 - 2 * slope * value,
                                            curvature * present ** 2 - 2 * slope * present)

    def test_3_training_that_has_converged_has_a_certificate(self):
        converged = 0
        for seed in range(150):
            chance, create, fill, order = sample(seed)
            found = run(create, *fill, ("train", chance.choice([3, 20, 100])), ("certificate",), ("sweep",))
            if found[-3][1]:
                converged += 1
                self.assertEqual(found[-2], [1])
                self.assertEqual(found[-1], [0, found[-3][2]])
        self.assertGreater(converged, 50)

    def test_4_without_is_as_if_the_user_had_never_been_there(self):
        for seed in range(150):
            chance, create, fill, order = sample(seed)
            user, most = chance.randrange(create[1]), chance.choice([0, 1, 3, 100])
            look = look_at(*create[1:4]) + [("objective",), ("certificate",)]
            others = [call for call in fill if call[0] == "set_rating" and call[1] != user]
            forgotten = run(create, *fill, ("train", 2), ("without", user, most), *look)
            never = run(create, *others, ("reset",), ("train", most), *look)
            self.assertEqual(forgotten[len(fill) + 2:], never[len(others) + 2:])

    def test_5_objective_not_negative_and_parameters_in_their_ranges(self):
        for seed in range(150):
            chance, create, fill, order = sample(seed)
            look = [("objective",)] + [("step", *parameter) for parameter in order]
            sets = [("set_parameter", *chance.choice(order), *new_value(chance, create)) for _ in range(10)]
            for work in ([], [("train", 5)], sets, [("without", 0, 3)]):
                found = run(create, *fill, *work, *look)[-len(look):]
                self.assertEqual(found[0][1], found[0][2] + found[0][3])
                self.assertGreaterEqual(min(found[0]), 0)
                for (kind, number, place), step in zip(order, found[1:]):
                    lowest = -655360 if place == 0 else 0 if create[5] else -create[4]
                    highest = 655360 if place == 0 else create[4]
                    for value in step[1:]:
                        self.assertTrue(lowest <= value <= highest)

    def test_6_the_parts_of_an_explanation_add_up_to_the_prediction(self):
        for seed in range(150):
            chance, create, fill, order = sample(seed)
            sets = [("set_parameter", *chance.choice(order), *new_value(chance, create)) for _ in range(6)]
            pairs = [(user, item) for user in range(create[1]) for item in range(create[2])]
            asked = [(name, *pair) for pair in pairs for name in ("explain", "predict")]
            found = run(create, *fill, ("train", 2), *sets, *asked)[-len(asked):]
            for parts, prediction in zip(found[0::2], found[1::2]):
                self.assertEqual(parts[0], len(parts) - 1)
                self.assertEqual([0, sum(parts[1:])], prediction)

    def test_7_a_failed_call_leaves_the_state(self):
        wrong = [
            ("create", 0, 3, 2, 100, 0, 5, 2, 77), ("create", 9, 3, 2, 100, 0, 5, 2, 77),
            ("create", 2, 0, 2, 100, 0, 5, 2, 77), ("create", 2, 3, 4, 100, 0, 5, 2, 77),
            ("create", 2, 3, 2, 0, 0, 5, 2, 77), ("create", 2, 3, 2, 4097, 0, 5, 2, 77),
            ("create", 2, 3, 2, 100, 2, 5, 2, 77), ("create", 2, 3, 2, 100, 0, 100000001, 2, 77),
            ("create", 2, 3, 2, 100, 0, 5, 1001, 77), ("set_rating", 2, 0, 9), ("set_rating", 0, 3, 9),
            ("set_rating", 0, 0, 0), ("set_rating", 0, 0, 11), ("clear_rating", 2, 0), ("clear_rating", 0, 3),
            ("clear_rating", 1, 0), ("delete_user", 2), ("step", 2, 0, 0), ("step", 0, 2, 0), ("step", 1, 3, 0),
            ("step", 0, 0, 3), ("train", 101), ("curve", 21), ("quadratic", 2, 0, 0), ("quadratic", 0, 2, 0),
            ("quadratic", 0, 0, 3), ("parameter", 2, 0, 0), ("parameter", 1, 3, 0), ("parameter", 0, 0, 3),
            ("set_parameter", 2, 0, 0, 0, 1), ("set_parameter", 0, 2, 0, 0, 1), ("set_parameter", 0, 0, 3, 0, 1),
            ("set_parameter", 0, 0, 0, 2, 1), ("set_parameter", 0, 0, 0, 0, 655361),
            ("set_parameter", 1, 2, 2, 1, 101), ("set_parameter", 1, 2, 2, 2, 0), ("predict", 2, 0), ("predict", 0, 3),
            ("explain", 2, 0), ("explain", 0, 3), ("residuals", 2), ("recommend", 2, 3), ("similar", 2, 0, 3),
            ("similar", 0, 2, 3), ("similar", 1, 3, 3), ("fold_in", 0), ("fold_in", 3, 5), ("fold_in", 0, 11),
            ("fold_in", 1, 5, 0, 5), ("recommend_new", 3, 0), ("recommend_new", 3, 0, 5, 0, 5), ("without", 2, 3),
            ("without", 0, 101), ("without", 1, 4294967295),
        ]
        for call in wrong:
            found = run(*STATE, call, *LOOK)[len(STATE):]
            self.assertEqual(len(found[0]), 1, call)
            self.assertIn(found[0][0], (-2, -22, -33), call)
            self.assertEqual(found[1:], EXPECTED, call)

    def test_7_mean_error_without_ratings(self):
        calls = [*STATE, ("delete_user", 0), ("delete_user", 1)]
        self.assertEqual(run(*calls, ("mean_error",), *LOOK)[len(calls):], [[-33]] + run(*calls, *LOOK)[len(calls):])


class TheCallsThatOnlyAsk(unittest.TestCase):
    def test_they_leave_the_state(self):
        asking = [
            ("objective",), ("curve", 20), ("certificate",), ("quadratic", 1, 2, 1), ("parameter", 1, 2, 1),
            ("predict", 1, 2), ("explain", 1, 2), ("residuals", 0), ("mean_error",), ("recommend", 1, 9),
            ("similar", 0, 0, 9), ("similar", 1, 0, 9), ("fold_in",), ("fold_in", 0, 10, 1, 1, 2, 10),
            ("recommend_new", 9), ("recommend_new", 9, 0, 10, 2, 10), ("status",),
        ]
        for call in asking:
            found = run(*STATE, call, *LOOK)[len(STATE):]
            self.assertGreaterEqual(found[0][0], 0, call)
            self.assertEqual(found[1:], EXPECTED, call)
        self.assertEqual(run(*STATE, *asking, *LOOK)[len(STATE) + len(asking):], EXPECTED)


class NoModel(unittest.TestCase):
    def test_every_call_but_create_fails_before_all_other_checks(self):
        self.assertEqual(run(*OTHER_CALLS), [[-11]] * len(OTHER_CALLS))

    def test_after_a_create_that_fails(self):
        self.assertEqual(run(("create", 2, 2, 4, 1, 0, 1, 1, 5), *OTHER_CALLS), [[-22]] + [[-11]] * len(OTHER_CALLS))

    def test_each_of_the_calls_is_among_them(self):
        self.assertEqual({call[0] for call in OTHER_CALLS}, set(NUMBERS) - {"create"})

    def test_until_a_create_succeeds(self):
        self.assertEqual(run(("train", 101), ("create", 1, 9, 0, 1, 0, 1, 1, 0), ("train", 101),
                             ("create", 1, 1, 0, 1, 0, 1, 1, 0), ("train", 101)),
                         [[-11], [-22], [-11], [2], [-22]])


if __name__ == "__main__":
    unittest.main()
