"""The products and the machine: add_product, remove_product, set_price, get_products and set_machine."""

import unittest

from request import GREATEST, last, run

CREATE = ("create", 2, 2)
SIX = [("add_product", thickness, thickness) for thickness in (20, 3, 50, 7, 60, 11)]
SIX_LISTED = [6, 60, 60, 50, 50, 20, 20, 11, 11, 7, 7, 3, 3]


class AddProduct(unittest.TestCase):
    def test_counts(self):
        self.assertEqual(run(CREATE, *SIX)[1:], [[1], [2], [3], [4], [5], [6]])

    def test_limits(self):
        for thickness, price, expected in (
            (3, 1, 1), (60, 1, 1), (3, 99, 1), (60, 99, 1), (31, 50, 1),
            (0, 1, -22), (2, 1, -22), (61, 1, -22), (GREATEST, 1, -22),
            (3, 0, -22), (3, 100, -22), (60, 100, -22), (60, GREATEST, -22), (2, 0, -22), (61, 100, -22),
        ):
            with self.subTest(thickness=thickness, price=price):
                listed = [1, thickness, price] if expected == 1 else [0]
                self.assertEqual(
                    run(CREATE, ("add_product", thickness, price), ("get_products",))[1:], [[expected], listed]
                )

    def test_same_thickness_again(self):
        self.assertEqual(
            run(CREATE, ("add_product", 10, 5), ("add_product", 10, 6), ("add_product", 10, 5), ("get_products",))[1:],
            [[1], [-17], [-17], [1, 10, 5]],
        )

    def test_a_seventh(self):
        self.assertEqual(run(CREATE, *SIX, ("add_product", 30, 1), ("get_products",))[7:], [[-28], SIX_LISTED])

    def test_errors_in_their_order(self):
        for call, code in (
            (("add_product", 20, 0), -22),
            (("add_product", 20, 100), -22),
            (("add_product", 2, 1), -22),
            (("add_product", 61, 1), -22),
            (("add_product", 30, 100), -22),
            (("add_product", 20, 1), -17),
            (("add_product", 30, 1), -28),
        ):
            with self.subTest(call=call):
                self.assertEqual(run(CREATE, *SIX, call, ("get_products",))[7:], [[code], SIX_LISTED])
        self.assertEqual(last(CREATE, ("add_product", 20, 1), ("add_product", 20, 0)), [-22])


class RemoveProduct(unittest.TestCase):
    def test_the_remaining_number(self):
        self.assertEqual(
            run(CREATE, *SIX, ("remove_product", 50), ("remove_product", 3), ("get_products",))[7:],
            [[5], [4], [4, 60, 60, 20, 20, 11, 11, 7, 7]],
        )
        self.assertEqual(run(CREATE, ("add_product", 3, 1), ("remove_product", 3), ("get_products",))[2:], [[0], [0]])

    def test_no_such_product(self):
        self.assertEqual(last(CREATE, ("remove_product", 3)), [-2])
        for thickness in (0, 2, 30, 61, GREATEST):
            with self.subTest(thickness=thickness):
                self.assertEqual(
                    run(CREATE, *SIX, ("remove_product", thickness), ("get_products",))[7:], [[-2], SIX_LISTED]
                )

    def test_removed_twice(self):
        self.assertEqual(
            run(CREATE, ("add_product", 10, 5), ("remove_product", 10), ("remove_product", 10))[1:], [[1], [0], [-2]]
        )

    def test_may_be_added_again(self):
        self.assertEqual(
            run(CREATE, *SIX, ("remove_product", 20), ("add_product", 20, 9), ("add_product", 30, 1), ("set_price", 20, 1)),
            [[0], [1], [2], [3], [4], [5], [6], [5], [6], [-28], [9]],
        )

    def test_no_longer_in_plans(self):
        self.assertEqual(
            run(
                CREATE,
                ("add_product", 10, 5),
                ("add_product", 20, 50),
                ("remove_product", 20),
                ("best_value", 60),
                ("plan_value", 20),
                ("fits", 60, 20),
                ("cut_count", 60, 20),
            )[3:],
            [[1], [10], [-22], [-22], [-22]],
        )


class SetPrice(unittest.TestCase):
    def test_the_previous_price(self):
        self.assertEqual(
            run(
                CREATE,
                ("add_product", 10, 5),
                ("set_price", 10, 99),
                ("set_price", 10, 1),
                ("set_price", 10, 1),
                ("get_products",),
            )[2:],
            [[5], [99], [1], [1, 10, 1]],
        )

    def test_errors_in_their_order(self):
        for call, code in (
            (("set_price", 11, 0), -2),
            (("set_price", 11, 100), -2),
            (("set_price", 11, 1), -2),
            (("set_price", 61, 1), -2),
            (("set_price", 0, 0), -2),
            (("set_price", 10, 0), -22),
            (("set_price", 10, 100), -22),
            (("set_price", 10, GREATEST), -22),
        ):
            with self.subTest(call=call):
                self.assertEqual(
                    run(CREATE, ("add_product", 10, 5), call, ("get_products",))[2:], [[code], [1, 10, 5]]
                )

    def test_the_new_price_counts(self):
        self.assertEqual(
            run(
                CREATE,
                ("add_product", 10, 5),
                ("add_product", 18, 11),
                ("best_value", 18),
                ("set_price", 10, 70),
                ("best_value", 18),
                ("plan_value", 18, 10),
                ("get_products",),
            )[3:],
            [[11], [5], [70], [81], [2, 18, 11, 10, 70]],
        )


class GetProducts(unittest.TestCase):
    def test_none(self):
        self.assertEqual(last(CREATE, ("get_products",)), [0])

    def test_the_thickest_first(self):
        self.assertEqual(last(CREATE, *SIX, ("get_products",)), SIX_LISTED)
        self.assertEqual(last(CREATE, *reversed(SIX), ("get_products",)), SIX_LISTED)
        self.assertEqual(
            last(CREATE, ("add_product", 9, 1), ("add_product", 10, 99), ("add_product", 3, 50), ("get_products",)),
            [3, 10, 99, 9, 1, 3, 50],
        )

    def test_changes_nothing(self):
        self.assertEqual(run(CREATE, *SIX, ("get_products",), ("get_products",))[7:], [SIX_LISTED, SIX_LISTED])


class SetMachine(unittest.TestCase):
    def test_zero_and_the_previous_values(self):
        self.assertEqual(
            run(("create", 9, 0), ("set_machine", 0, 5), ("set_machine", 9, 0), ("set_machine", 3, 4), ("set_machine", 3, 4)),
            [[0], [0, 9, 0], [0, 0, 5], [0, 9, 0], [0, 3, 4]],
        )

    def test_changes_nothing_when_it_fails(self):
        for machine in ((10, 0), (10, 5), (0, 6), (9, 6), (10, 6), (GREATEST, 0), (0, GREATEST), (GREATEST, GREATEST)):
            with self.subTest(machine=machine):
                self.assertEqual(
                    run(("create", 3, 4), ("set_machine", *machine), ("set_machine", 1, 1))[1:], [[-22], [0, 3, 4]]
                )

    def test_keeps_the_products_and_counts_afterwards(self):
        self.assertEqual(
            run(
                ("create", 2, 2),
                ("add_product", 10, 5),
                ("best_value", 20),
                ("fits", 20, 10, 10),
                ("set_machine", 0, 1),
                ("get_products",),
                ("best_value", 20),
                ("fits", 20, 10, 10),
                ("cut_count", 20, 10, 10),
                ("set_machine", 0, 0),
                ("best_value", 20),
            )[2:],
            [[5], [0], [0, 2, 2], [1, 10, 5], [10], [1], [1], [0, 0, 1], [0]],
        )


if __name__ == "__main__":
    unittest.main()
