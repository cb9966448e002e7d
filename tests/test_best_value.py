"""best_value: the edges, the same as a plain search finds, and what the requirements say of it."""

import random
import unittest

from request import EXAMPLE, GREATEST, best_by_search, last, making, run

HIDES = range(61)


def splitters():
    """Give pairs of a machine and prices: some written out, and others that are the same each time."""
    yield (0, 0), {}
    yield (2, 2), {10: 5, 18: 11}
    yield (0, 5), {3: 1, 4: 1, 5: 2, 6: 2, 7: 3, 8: 3}
    yield (0, 5), {10: 7}
    yield (9, 5), {3: 99, 60: 99}
    yield (1, 3), {5: 9, 11: 9, 12: 20, 13: 22, 30: 40, 59: 60}
    yield (0, 0), {12: 1, 15: 2, 30: 3}
    source = random.Random(164)
    for count in list(range(1, 7)) * 3:
        thicknesses = source.sample(range(3, 25), count)
        yield (source.randint(0, 9), source.randint(0, 5)), {each: source.randint(1, 99) for each in thicknesses}


def values(machine, prices):
    """Give the best value for each hide from 0 to 60."""
    calls = [("best_value", hide) for hide in HIDES]
    half = len(calls) // 2
    begin = making(machine, prices)
    parts = run(*begin, *calls[:half])[len(begin):] + run(*begin, *calls[half:])[len(begin):]
    return [value for (value,) in parts]


class Edges(unittest.TestCase):
    def test_no_product(self):
        for hide in (0, 1, 60):
            self.assertEqual(last(("create", 0, 5), ("best_value", hide)), [0])

    def test_hide(self):
        begin = making((2, 2), {60: 40, 3: 1})
        for hide, value in ((0, 0), (2, 0), (3, 1), (4, 1), (59, 2), (60, 40), (61, -22), (GREATEST, -22)):
            with self.subTest(hide=hide):
                self.assertEqual(last(*begin, ("best_value", hide)), [value])

    def test_no_cuts(self):
        begin = making((0, 0), {18: 11, 9: 6})
        for hide, value in ((0, 0), (8, 0), (9, 6), (10, 0), (17, 0), (18, 11), (19, 0), (36, 0), (60, 0)):
            with self.subTest(hide=hide):
                self.assertEqual(last(*begin, ("best_value", hide)), [value])

    def test_six_layers_that_use_the_whole_hide(self):
        # With a cut loss of 9 six layers and five cuts are more than any hide.
        for cut_loss, thickness, hide in ((0, 10, 60), (2, 8, 58), (8, 3, 58), (0, 3, 18)):
            with self.subTest(cut_loss=cut_loss, thickness=thickness, hide=hide):
                prices = {thickness: 7}
                self.assertEqual(last(*making((cut_loss, 5), prices), ("best_value", hide)), [42])
                self.assertEqual(last(*making((cut_loss, 5), prices), ("best_value", hide - 1)), [35])
                self.assertEqual(last(*making((cut_loss, 4), prices), ("best_value", hide)), [28])
        self.assertEqual(last(*making((0, 5), {3: 99}), ("best_value", 18)), [594])
        self.assertEqual(last(*making((0, 5), {3: 99}), ("best_value", 60)), [495])

    def test_cut_loss(self):
        prices = {10: 5}
        self.assertEqual(last(*making((0, 5), prices), ("best_value", 50)), [25])
        self.assertEqual(last(*making((9, 5), prices), ("best_value", 48)), [15])
        self.assertEqual(last(*making((9, 5), prices), ("best_value", 47)), [10])

    def test_a_thicker_hide_may_be_worth_less(self):
        # The layer alone uses the hide up only when the hide is no thicker.
        begin = making((0, 0), {18: 11})
        self.assertEqual(run(*begin, ("best_value", 18), ("best_value", 19))[2:], [[11], [0]])

    def test_changes_nothing(self):
        begin = making((2, 2), {10: 5, 18: 11})
        self.assertEqual(
            run(*begin, ("best_value", 30), ("best_value", 30), ("get_products",), ("set_machine", 0, 0))[3:],
            [[16], [16], [2, 18, 11, 10, 5], [0, 2, 2]],
        )


class Requirements(unittest.TestCase):
    def test_1_the_same_as_a_plain_search(self):
        for machine, prices in splitters():
            with self.subTest(machine=machine, prices=prices):
                expected = [best_by_search(machine, prices, hide)[0] for hide in HIDES]
                self.assertEqual(values(machine, prices), expected)

    def test_2_dividing_a_hide_never_helps(self):
        pairs = 0
        for machine, prices in splitters():
            cut_loss, max_cuts = machine
            value = values(machine, prices)
            layers = [best_by_search(machine, prices, hide)[1] for hide in HIDES]
            for first in HIDES:
                for second in range(first, 61 - cut_loss - first):
                    if layers[first] + layers[second] <= max_cuts:
                        pairs += 1
                        self.assertLessEqual(value[first] + value[second], value[first + second + cut_loss])
        self.assertGreater(pairs, 1000)

    def test_3_a_thicker_hide_is_not_worth_less(self):
        pairs = 0
        for machine, prices in splitters():
            value = values(machine, prices)
            for hide in HIDES:
                if best_by_search(machine, prices, hide)[1] <= machine[1]:
                    for thicker in range(hide + 1, 61):
                        pairs += 1
                        self.assertLessEqual(value[hide], value[thicker])
        self.assertGreater(pairs, 1000)

    def test_4_a_better_machine_is_not_worth_less(self):
        pairs = 0
        for (cut_loss, max_cuts), prices in splitters():
            value = values((cut_loss, max_cuts), prices)
            layers = [best_by_search((cut_loss, max_cuts), prices, hide)[1] for hide in HIDES]
            better = [(loss, cuts) for loss in range(cut_loss + 1) for cuts in range(max_cuts, 6)]
            for loss, cuts in better:
                new_value = values((loss, cuts), prices)
                for hide in HIDES:
                    if layers[hide] <= cuts:
                        pairs += 1
                        self.assertLessEqual(value[hide], new_value[hide])
        self.assertGreater(pairs, 1000)


class Example(unittest.TestCase):
    def test_the_document_s_example(self):
        self.assertEqual(run(*EXAMPLE), [[0], [1], [2], [16], [1], [1], [-22]])

    def test_the_plans_it_tells_of(self):
        self.assertEqual(
            run(
                ("create", 2, 2),
                ("add_product", 10, 5),
                ("add_product", 18, 11),
                ("best_value", 38),
                ("plan_value", 18, 18),
                ("best_value", 17),
                ("best_value", 18),
                ("set_machine", 0, 1),
                ("best_value", 36),
            )[3:],
            [[22], [22], [5], [11], [0, 2, 2], [22]],
        )


if __name__ == "__main__":
    unittest.main()
