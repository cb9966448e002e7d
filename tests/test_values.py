"""Best values of several hides: value_table, least_thickness and value_of_two."""

import unittest

from request import GREATEST, HIDES, ask_all, best_value_by_search, last, making, run, splitters

EXAMPLE = making((2, 2), {10: 5, 18: 11})


class ValueTable(unittest.TestCase):
    def test_twelve_then_the_best_values(self):
        self.assertEqual(
            last(*EXAMPLE, ("value_table",)), [12, 0, 5, 5, 11, 11, 16, 16, 22, 22, 27, 22, 22]
        )
        self.assertEqual(
            last(*making((0, 0), {5: 1, 25: 2, 60: 99}), ("value_table",)), [12, 1, 0, 0, 0, 2, 0, 0, 0, 0, 0, 0, 99]
        )
        self.assertEqual(
            last(*making((0, 5), {10: 7}), ("value_table",)), [12, 0, 7, 7, 14, 14, 21, 21, 28, 28, 35, 35, 42]
        )

    def test_no_product(self):
        self.assertEqual(last(("create", 0, 5), ("value_table",)), [12] + [0] * 12)

    def test_the_products_and_the_machine_of_the_moment(self):
        self.assertEqual(
            run(
                *making((0, 0), {5: 1, 60: 99}),
                ("value_table",),
                ("set_price", 60, 98),
                ("remove_product", 5),
                ("value_table",),
                ("set_machine", 0, 1),
                ("add_product", 55, 9),
                ("value_table",),
            )[3:],
            [
                [12, 1] + [0] * 10 + [99],
                [99],
                [1],
                [12] + [0] * 11 + [98],
                [0, 0, 0],
                [2],
                [12] + [0] * 10 + [9, 98],
            ],
        )

    def test_the_same_as_a_plain_search(self):
        for machine, prices in splitters():
            with self.subTest(machine=machine, prices=prices):
                self.assertEqual(
                    last(*making(machine, prices), ("value_table",)),
                    [12] + [best_value_by_search(machine, prices, 5 * step) for step in range(1, 13)],
                )


class LeastThickness(unittest.TestCase):
    def test_met_just_at_a_thickness_and_not_below(self):
        for value, thickness in (
            (1, 10),
            (5, 10),
            (6, 18),
            (11, 18),
            (12, 30),
            (16, 30),
            (17, 38),
            (22, 38),
            (23, 50),
            (27, 50),
            (28, 58),
            (33, 58),
        ):
            with self.subTest(value=value):
                self.assertEqual(last(*EXAMPLE, ("least_thickness", value)), [thickness])
                answers = run(*EXAMPLE, ("best_value", thickness), ("best_value", thickness - 1))[-2:]
                self.assertGreaterEqual(answers[0][0], value)
                self.assertLess(answers[1][0], value)

    def test_a_thicker_hide_need_not_be_sufficient(self):
        begin = making((0, 0), {18: 11, 9: 6})
        self.assertEqual(
            run(*begin, ("least_thickness", 6), ("least_thickness", 7), ("best_value", 19), ("best_value", 60))[3:],
            [[9], [18], [0], [0]],
        )

    def test_value_0(self):
        for machine, prices in (((0, 0), {}), ((0, 5), {}), ((2, 2), {10: 5}), ((9, 5), {3: 99})):
            self.assertEqual(last(*making(machine, prices), ("least_thickness", 0)), [0])

    def test_no_thickness_is_sufficient(self):
        self.assertEqual(last(*EXAMPLE, ("least_thickness", 34)), [-33])
        self.assertEqual(last(("create", 0, 5), ("least_thickness", 1)), [-33])
        self.assertEqual(last(*making((0, 0), {60: 99}), ("least_thickness", 99)), [60])
        self.assertEqual(last(*making((0, 0), {60: 99}), ("least_thickness", 100)), [-33])
        self.assertEqual(last(*making((0, 5), {3: 99}), ("least_thickness", 594)), [18])
        self.assertEqual(last(*making((0, 5), {3: 99}), ("least_thickness", 595)), [-33])
        self.assertEqual(last(*making((0, 4), {3: 99}), ("least_thickness", 594)), [-33])
        self.assertEqual(last(*making((9, 5), {3: 99}), ("least_thickness", 594)), [-33])
        self.assertEqual(last(*making((9, 5), {3: 99}), ("least_thickness", 495)), [51])

    def test_limits_come_first(self):
        for begin in (EXAMPLE, [("create", 0, 5)]):
            for value, code in ((999, -33), (1000, -22), (GREATEST, -22)):
                with self.subTest(begin=begin, value=value):
                    self.assertEqual(last(*begin, ("least_thickness", value)), [code])

    def test_the_same_as_a_plain_search(self):
        for machine, prices in splitters():
            with self.subTest(machine=machine, prices=prices):
                best = [best_value_by_search(machine, prices, hide) for hide in HIDES]
                asked = sorted({max(value + step, 0) for value in best for step in (-1, 0, 1)} | {1, 50, 400, 999})
                self.assertEqual(
                    ask_all(machine, prices, [("least_thickness", value) for value in asked]),
                    [[next((hide for hide in HIDES if best[hide] >= value), -33)] for value in asked],
                )


class ValueOfTwo(unittest.TestCase):
    def test_alike_and_unlike(self):
        for first, second, value in (
            (30, 38, 38),
            (38, 30, 38),
            (30, 30, 32),
            (38, 38, 44),
            (0, 0, 0),
            (0, 30, 16),
            (30, 0, 16),
            (9, 10, 5),
            (60, 60, 44),
            (60, 58, 55),
        ):
            with self.subTest(first=first, second=second):
                self.assertEqual(last(*EXAMPLE, ("value_of_two", first, second)), [value])

    def test_no_product(self):
        self.assertEqual(last(("create", 0, 5), ("value_of_two", 60, 1)), [0])

    def test_either_of_them_too_thick(self):
        for pair in ((61, 0), (0, 61), (61, 60), (60, 61), (61, 61), (GREATEST, 0), (0, GREATEST), (GREATEST, 61)):
            with self.subTest(pair=pair):
                self.assertEqual(last(*EXAMPLE, ("value_of_two", *pair)), [-22])


if __name__ == "__main__":
    unittest.main()
