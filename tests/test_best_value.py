"""best_value: the edges, and the same as a plain search finds."""

import unittest

from request import GREATEST, HIDES, ask_all, best_value_by_search, last, making, run, splitters


class Edges(unittest.TestCase):
    def test_no_product(self):
        for hide in (0, 1, 60):
            self.assertEqual(last(("create", 0, 5), ("best_value", hide)), [0])

    def test_hide(self):
        begin = making((2, 2), {60: 40, 3: 1})
        for hide, value in ((0, 0), (2, 0), (3, 1), (4, 1), (59, 2), (60, 40), (61, -22), (GREATEST, -22)):
            with self.subTest(hide=hide):
                self.assertEqual(last(*begin, ("best_value", hide)), [value])

    def test_no_cuts(self):
        begin = making((0, 0), {18: 11, 9: 6})
        for hide, value in ((0, 0), (8, 0), (9, 6), (10, 0), (17, 0), (18, 11), (19, 0), (36, 0), (60, 0)):
            with self.subTest(hide=hide):
                self.assertEqual(last(*begin, ("best_value", hide)), [value])

    def test_six_layers_that_use_the_whole_hide(self):
        # With a cut loss of 9 six layers and five cuts are more than any hide.
        for cut_loss, thickness, hide in ((0, 10, 60), (2, 8, 58), (8, 3, 58), (0, 3, 18)):
            with self.subTest(cut_loss=cut_loss, thickness=thickness, hide=hide):
                prices = {thickness: 7}
                self.assertEqual(last(*making((cut_loss, 5), prices), ("best_value", hide)), [42])
                self.assertEqual(last(*making((cut_loss, 5), prices), ("best_value", hide - 1)), [35])
                self.assertEqual(last(*making((cut_loss, 4), prices), ("best_value", hide)), [28])
        self.assertEqual(last(*making((0, 5), {3: 99}), ("best_value", 18)), [594])
        self.assertEqual(last(*making((0, 5), {3: 99}), ("best_value", 60)), [495])

    def test_cut_loss(self):
        prices = {10: 5}
        self.assertEqual(last(*making((0, 5), prices), ("best_value", 50)), [25])
        self.assertEqual(last(*making((9, 5), prices), ("best_value", 48)), [15])
        self.assertEqual(last(*making((9, 5), prices), ("best_value", 47)), [10])

    def test_a_thicker_hide_may_be_worth_less(self):
        # The layer alone uses the hide up only when the hide is no thicker.
        begin = making((0, 0), {18: 11})
        self.assertEqual(run(*begin, ("best_value", 18), ("best_value", 19))[2:], [[11], [0]])

    def test_changes_nothing(self):
        begin = making((2, 2), {10: 5, 18: 11})
        self.assertEqual(
            run(*begin, ("best_value", 30), ("best_value", 30), ("get_products",), ("set_machine", 0, 0))[3:],
            [[16], [16], [2, 18, 11, 10, 5], [0, 2, 2]],
        )


class Search(unittest.TestCase):
    def test_the_same_as_a_plain_search(self):
        for machine, prices in splitters():
            with self.subTest(machine=machine, prices=prices):
                self.assertEqual(
                    ask_all(machine, prices, [("best_value", hide) for hide in HIDES]),
                    [[best_value_by_search(machine, prices, hide)] for hide in HIDES],
                )


class Example(unittest.TestCase):
    def test_the_plans_it_tells_of(self):
        self.assertEqual(
            run(
                ("create", 2, 2),
                ("add_product", 10, 5),
                ("add_product", 18, 11),
                ("best_value", 38),
                ("plan_value", 18, 18),
                ("best_value", 17),
                ("best_value", 18),
                ("set_machine", 0, 1),
                ("best_value", 36),
            )[3:],
            [[22], [22], [5], [11], [0, 2, 2], [22]],
        )


if __name__ == "__main__":
    unittest.main()
