"""The best value with another machine or another product: value_with_machine and value_with_product."""

import unittest

from request import GREATEST, HIDES, ask_all, best_value_by_search, last, making, run, splitters

PRICES = {10: 5, 18: 11}
EXAMPLE = making((2, 2), PRICES)
SIX = {60: 60, 50: 50, 20: 20, 11: 11, 7: 7, 3: 3}
SIX_LISTED = [6, 60, 60, 50, 50, 20, 20, 11, 11, 7, 7, 3, 3]


class ValueWithMachine(unittest.TestCase):
    def test_the_best_value_with_this_machine(self):
        for cut_loss, max_cuts, hide, value in (
            (0, 1, 36, 22),
            (2, 2, 36, 16),
            (2, 2, 30, 16),
            (9, 0, 18, 11),
            (9, 0, 19, 0),
            (9, 5, 45, 22),
            (9, 5, 44, 16),
            (0, 5, 60, 33),
            (0, 0, 60, 0),
            (0, 0, 0, 0),
            (9, 5, 60, 22),
            (9, 1, 18, 11),
        ):
            with self.subTest(cut_loss=cut_loss, max_cuts=max_cuts, hide=hide):
                call = ("value_with_machine", cut_loss, max_cuts, hide)
                for machine in ((2, 2), (9, 0), (0, 5)):
                    self.assertEqual(last(*making(machine, PRICES), call), [value])

    def test_limits(self):
        for call, expected in (
            ((0, 0, 0), 0),
            ((9, 5, 60), 22),
            ((10, 5, 60), -22),
            ((9, 6, 60), -22),
            ((9, 5, 61), -22),
            ((10, 0, 0), -22),
            ((0, 6, 0), -22),
            ((0, 0, 61), -22),
            ((10, 6, 61), -22),
            ((GREATEST, 0, 0), -22),
            ((0, GREATEST, 0), -22),
            ((0, 0, GREATEST), -22),
            ((GREATEST, GREATEST, GREATEST), -22),
        ):
            with self.subTest(call=call):
                self.assertEqual(last(*EXAMPLE, ("value_with_machine", *call)), [expected])

    def test_no_product(self):
        self.assertEqual(last(("create", 0, 0), ("value_with_machine", 0, 5, 60)), [0])

    def test_the_machine_is_as_it_was(self):
        self.assertEqual(
            run(
                *EXAMPLE,
                ("value_with_machine", 0, 1, 36),
                ("best_value", 36),
                ("value_with_machine", 9, 6, 36),
                ("best_value", 36),
                ("fits", 36, 18, 18),
                ("set_machine", 0, 1),
                ("best_value", 36),
            )[3:],
            [[22], [16], [-22], [16], [0], [0, 2, 2], [22]],
        )

    def test_the_same_as_a_plain_search(self):
        for machine, prices in splitters():
            for other in ((0, 0), (0, 5), (3, 2), (9, 5)):
                with self.subTest(machine=machine, prices=prices, other=other):
                    self.assertEqual(
                        ask_all(machine, prices, [("value_with_machine", *other, hide) for hide in HIDES]),
                        [[best_value_by_search(other, prices, hide)] for hide in HIDES],
                    )


class ValueWithProduct(unittest.TestCase):
    def test_the_best_value_with_this_product(self):
        for thickness, price, hide, value in (
            (30, 40, 30, 40),
            (30, 40, 29, 11),
            (30, 40, 42, 45),
            (3, 1, 0, 0),
            (3, 1, 3, 1),
            (11, 1, 30, 16),
            (60, 99, 60, 99),
            (60, 1, 60, 22),
            (4, 10, 60, 22),
            (4, 10, 16, 30),
        ):
            with self.subTest(thickness=thickness, price=price, hide=hide):
                self.assertEqual(last(*EXAMPLE, ("value_with_product", thickness, price, hide)), [value])

    def test_no_product_yet(self):
        self.assertEqual(run(("create", 0, 0), ("value_with_product", 60, 7, 60), ("get_products",))[1:], [[7], [0]])

    def test_six_products_already(self):
        begin = making((0, 0), SIX)
        self.assertEqual(
            run(
                *begin,
                ("value_with_product", 30, 99, 30),
                ("get_products",),
                ("best_value", 30),
                ("add_product", 30, 99),
                ("value_with_product", 59, 1, 59),
                ("value_with_product", 59, 1, 60),
                ("value_with_product", 59, 99, 60),
                ("get_products",),
            )[7:],
            [[99], SIX_LISTED, [0], [-28], [1], [60], [60], SIX_LISTED],
        )

    def test_limits(self):
        for call, expected in (
            ((3, 1, 60), 22),
            ((60, 99, 60), 99),
            ((3, 99, 0), 0),
            ((2, 1, 60), -22),
            ((61, 1, 60), -22),
            ((3, 0, 60), -22),
            ((3, 100, 60), -22),
            ((3, 1, 61), -22),
            ((0, 0, 61), -22),
            ((GREATEST, 1, 60), -22),
            ((3, GREATEST, 60), -22),
            ((3, 1, GREATEST), -22),
            ((GREATEST, GREATEST, GREATEST), -22),
        ):
            with self.subTest(call=call):
                self.assertEqual(last(*EXAMPLE, ("value_with_product", *call)), [expected])

    def test_errors_in_their_order(self):
        for begin in (EXAMPLE, making((0, 5), {**PRICES, 3: 1, 4: 1, 5: 1, 6: 1})):
            for call, code in (
                ((10, 5, 60), -17),
                ((10, 99, 0), -17),
                ((18, 1, 60), -17),
                ((10, 0, 60), -22),
                ((10, 100, 60), -22),
                ((10, 5, 61), -22),
                ((18, 0, GREATEST), -22),
            ):
                with self.subTest(begin=begin, call=call):
                    self.assertEqual(last(*begin, ("value_with_product", *call)), [code])

    def test_the_products_are_as_they_were(self):
        self.assertEqual(
            run(
                *EXAMPLE,
                ("value_with_product", 30, 40, 30),
                ("get_products",),
                ("best_value", 30),
                ("plan_value", 30),
                ("layers_of_product", 30, 30),
                ("value_with_product", 30, 40, 30),
                ("value_with_product", 18, 99, 30),
                ("value_with_product", 30, 0, 30),
                ("get_products",),
                ("best_value", 30),
                ("add_product", 30, 39),
                ("value_with_product", 30, 40, 30),
                ("best_value", 30),
            )[3:],
            [
                [40], [2, 18, 11, 10, 5], [16], [-22], [-2], [40], [-17], [-22], [2, 18, 11, 10, 5], [16],
                [3], [-17], [39],
            ],
        )

    def test_the_same_as_a_plain_search(self):
        for machine, prices in splitters():
            for thickness, price in ((25, 99), (26, 7), (57, 50)):
                with self.subTest(machine=machine, prices=prices, thickness=thickness):
                    self.assertEqual(
                        ask_all(machine, prices, [("value_with_product", thickness, price, hide) for hide in HIDES]),
                        [[best_value_by_search(machine, {**prices, thickness: price}, hide)] for hide in HIDES],
                    )


if __name__ == "__main__":
    unittest.main()
