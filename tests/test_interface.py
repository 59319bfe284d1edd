"""The list of whole numbers that is handed in and the one that is given back; the document's examples."""

import unittest

from helper import OTHER_CALLS, run, written
from likings.models import answers


class Interface(unittest.TestCase):
    def test_each_answer_has_its_length_before_it(self):
        calls = [("create", 2, 2, 0, 1, 0, 1, 1, 5), ("set_rating", 0, 0, 8), ("step", 0, 0, 0), ("train", 101)]
        self.assertEqual(answers(written(calls)), [1, 4, 1, 0, 3, 1, 0, 262144, 1, -22])

    def test_the_numbers_as_they_are_handed_in(self):
        calls = [0, 8, 1, 2, 1, 300, 0, 1, 1, 5, 0, 7, 1, 3, 0, 8, 0, 0]
        self.assertEqual(answers(calls), [1, 6, 3, 2, 1, 0, 4, 0, 0, 0, 0])

    def test_how_many_numbers_each_call_answers(self):
        calls = [
            ("create", 2, 3, 1, 9, 0, 1, 1, 5), ("set_rating", 0, 0, 8), ("clear_rating", 0, 0), ("delete_user", 0),
            ("reset",), ("step", 0, 0, 1), ("sweep",), ("train", 2), ("objective",), ("curve", 3), ("certificate",),
            ("quadratic", 0, 0, 1), ("set_rating", 0, 0, 8), ("certificate",), ("parameter", 0, 0, 1),
            ("set_parameter", 0, 0, 1, 0, 2), ("predict", 0, 0), ("explain", 0, 0), ("residuals", 0), ("mean_error",),
            ("recommend", 0, 5), ("similar", 0, 0, 5), ("fold_in", 0, 1), ("recommend_new", 5, 0, 1), ("without", 0, 1),
            ("status",),
        ]
        self.assertEqual([len(answer) for answer in run(*calls)],
                         [1, 1, 1, 1, 1, 3, 2, 3, 4, 4, 1, 3, 1, 4, 2, 2, 2, 5, 3, 3, 5, 1, 3, 5, 3, 5])

    def test_ratings_stand_among_the_numbers_of_the_call(self):
        calls = [0, 8, 1, 2, 0, 1, 0, 0, 0, 5, 0, 20, 0, 0, 20, 2, 0, 3, 0, 20, 3, 0, 3, 1, 0, 21, 1, 9, 0,
                 21, 3, 9, 0, 3, 0, 21, 2, 9, 0, 0, 23, 0, 0]
        self.assertEqual(answers(calls), [1, 3, 2, 1, 0, 2, 2, 196608, 1, -22, 5, 2, 0, 0, 1, 0, 3, 1, 1, 196608,
                                          1, -22, 5, 1, 2, 0, 0, 3])

    def test_numbers_are_ints_and_never_true_or_false(self):
        calls = [("create", 2, 2, 1, 64, 0, 1, 1, 5), ("set_rating", 0, 0, 8), ("reset",)] + OTHER_CALLS
        found = answers(written(calls))
        self.assertIs(type(found), list)
        self.assertEqual({type(number) for number in found}, {int})

    def test_what_is_handed_in_stays_as_it_is(self):
        numbers = written([("create", 2, 2, 1, 64, 0, 1, 1, 5)] + OTHER_CALLS)
        kept = list(numbers)
        answers(numbers)
        self.assertEqual(numbers, kept)

    def test_nothing_is_kept_from_one_list_to_the_next(self):
        calls = [("create", 2, 2, 1, 64, 0, 1, 1, 5), ("set_rating", 0, 0, 8), ("train", 3)]
        first = run(*calls)
        self.assertEqual(run(("objective",)), [[-11]])
        self.assertEqual(run(*calls), first)

    def test_sixty_calls(self):
        calls = [("create", 1, 1, 0, 1, 0, 1, 1, 0)] + [("set_rating", 0, 0, 3)] * 59
        self.assertEqual(run(*calls), [[2], [0]] + [[3]] * 58)


class Examples(unittest.TestCase):
    def test_first_block(self):
        calls = [
            ("create", 2, 2, 0, 1, 0, 1, 1, 5), ("set_rating", 0, 0, 8), ("set_rating", 0, 1, 5), ("reset",),
            ("step", 0, 0, 0), ("step", 1, 0, 0), ("predict", 0, 0), ("objective",), ("quadratic", 1, 1, 0),
            ("certificate",), ("recommend", 1, 5), ("residuals", 0), ("mean_error",), ("without", 5, 1),
            ("clear_rating", 1, 1), ("status",),
        ]
        self.assertEqual(run(*calls), [
            [4], [0], [0], [425984], [0, 0, 0], [1, 0, 49152], [0, 475136], [0, 14495514624, 12079595520, 2415919104],
            [0, 2, -98304], [0, 0, 0, 0], [2, 0, 475136, 1, 425984], [2, 0, 49152, 1, -98304], [0, 45, 32], [-2], [-33],
            [2, 2, 0, 2, 4],
        ])

    def test_second_block(self):
        calls = [
            ("create", 1, 2, 1, 300, 0, 1, 1, 5), ("train", 3), ("set_parameter", 0, 0, 1, 0, 200),
            ("set_parameter", 1, 0, 1, 0, 256), ("predict", 0, 0), ("set_rating", 0, 0, 1), ("quadratic", 0, 0, 1),
            ("step", 0, 0, 1), ("explain", 0, 0), ("objective",), ("similar", 1, 0, 5),
            ("set_parameter", 1, 1, 1, 1, 301), ("fold_in", 0), ("parameter", 0, 0, 2),
        ]
        self.assertEqual(run(*calls), [
            [6], [2, 1, 0], [0, 0], [0, 0], [0, 51200], [0], [0, 65537, 16777216], [1, 200, 256], [4, 0, 0, 0, 65536],
            [0, 131072, 0, 131072], [0], [-22], [-22], [-2],
        ])


if __name__ == "__main__":
    unittest.main()
