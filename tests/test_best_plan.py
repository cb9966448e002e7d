"""The best plan and what is told of it: best_plan, waste and layers_of_product."""

import unittest

from request import GREATEST, HIDES, ask_all, best_plan_by_search, last, making, run, splitters

EXAMPLE = {10: 5, 18: 11}


def best_plan(machine, prices, hide):
    return last(*making(machine, prices), ("best_plan", hide))


class BestPlan(unittest.TestCase):
    def test_the_number_of_layers_then_the_plan(self):
        for hide, answer in (
            (10, [1, 10]),
            (17, [1, 10]),
            (18, [1, 18]),
            (22, [1, 18]),
            (30, [2, 18, 10]),
            (37, [2, 18, 10]),
            (38, [2, 18, 18]),
            (50, [3, 18, 18, 10]),
            (51, [2, 18, 18]),
            (58, [3, 18, 18, 18]),
            (60, [2, 18, 18]),
        ):
            with self.subTest(hide=hide):
                self.assertEqual(best_plan((2, 2), EXAMPLE, hide), answer)

    def test_no_product(self):
        for machine in ((0, 0), (0, 5), (9, 5)):
            for hide in (0, 1, 60):
                self.assertEqual(best_plan(machine, {}, hide), [0])

    def test_a_hide_that_no_product_fits(self):
        for hide in (0, 1, 9):
            self.assertEqual(best_plan((2, 2), EXAMPLE, hide), [0])
        # The product is thin enough here, but the machine can't cut it off.
        self.assertEqual(best_plan((0, 0), {18: 11}, 19), [0])

    def test_hide(self):
        for hide, answer in ((0, [0]), (59, [0]), (60, [1, 60]), (61, [-22]), (GREATEST, [-22])):
            with self.subTest(hide=hide):
                self.assertEqual(best_plan((9, 0), {60: 99}, hide), answer)
                self.assertEqual(last(("create", 9, 0), ("best_plan", hide)), [-22] if hide > 60 else [0])

    def test_no_cuts(self):
        for hide, answer in ((9, [1, 9]), (10, [0]), (18, [1, 18]), (19, [0]), (36, [0]), (60, [0])):
            with self.subTest(hide=hide):
                self.assertEqual(best_plan((0, 0), {18: 11, 9: 6}, hide), answer)

    def test_five_cuts(self):
        self.assertEqual(best_plan((0, 5), {10: 7}, 60), [6, 10, 10, 10, 10, 10, 10])
        self.assertEqual(best_plan((0, 5), {10: 7}, 59), [5, 10, 10, 10, 10, 10])
        self.assertEqual(best_plan((0, 4), {10: 7}, 60), [4, 10, 10, 10, 10])
        self.assertEqual(best_plan((2, 5), {8: 7}, 58), [6, 8, 8, 8, 8, 8, 8])
        self.assertEqual(best_plan((2, 5), {8: 7}, 59), [5, 8, 8, 8, 8, 8])
        self.assertEqual(best_plan((0, 5), {3: 99, 60: 98}, 60), [5, 3, 3, 3, 3, 3])

    def test_like_values_go_to_fewer_cuts(self):
        # [12, 5] would be first in the order, but the hide isn't used up by it.
        self.assertEqual(best_plan((0, 5), {12: 9, 5: 1, 10: 5}, 20), [2, 10, 10])
        self.assertEqual(best_plan((2, 5), {12: 9, 5: 1, 10: 5}, 22), [2, 10, 10])
        # The same two plans with one more to spare are cut twice each.
        self.assertEqual(best_plan((0, 2), {12: 9, 5: 1, 10: 5}, 21), [2, 12, 5])

    def test_like_values_and_cuts_go_to_the_first_in_the_order(self):
        for machine, prices, hide, answer in (
            ((0, 5), {10: 5, 12: 5}, 15, [1, 12]),
            ((0, 2), {10: 4, 20: 9, 12: 4}, 39, [2, 20, 12]),
            # The first position decides, though the second plan has the thicker last layer.
            ((0, 2), {13: 6, 7: 3, 15: 9}, 27, [2, 15, 7]),
            ((0, 1), {8: 3, 12: 3, 10: 3}, 20, [2, 12, 8]),
        ):
            # The order in which the products came is of no weight.
            for products in (prices, dict(reversed(prices.items()))):
                with self.subTest(machine=machine, products=products, hide=hide):
                    self.assertEqual(best_plan(machine, products, hide), answer)

    def test_the_products_and_the_machine_of_the_moment(self):
        self.assertEqual(
            run(
                *making((2, 2), EXAMPLE),
                ("best_plan", 38),
                ("set_price", 10, 40),
                ("best_plan", 38),
                ("remove_product", 10),
                ("best_plan", 38),
                ("set_machine", 2, 0),
                ("best_plan", 38),
                ("best_plan", 18),
                ("add_product", 38, 1),
                ("best_plan", 38),
                ("create", 0, 5),
                ("best_plan", 38),
            )[3:],
            [[2, 18, 18], [5], [2, 10, 10], [1], [2, 18, 18], [0, 2, 2], [0], [1, 18], [2], [1, 38], [0], [0]],
        )

    def test_the_same_as_a_plain_search(self):
        for machine, prices in splitters():
            with self.subTest(machine=machine, prices=prices):
                plans = [best_plan_by_search(machine, prices, hide) for hide in HIDES]
                self.assertEqual(
                    ask_all(machine, prices, [("best_plan", hide) for hide in HIDES]),
                    [[len(plan), *plan] for plan in plans],
                )
                self.assertEqual(
                    ask_all(machine, prices, [("waste", hide) for hide in HIDES]),
                    [[hide - sum(plan)] for hide, plan in zip(HIDES, plans)],
                )
                for thickness in prices:
                    self.assertEqual(
                        ask_all(machine, prices, [("layers_of_product", hide, thickness) for hide in HIDES]),
                        [[plan.count(thickness)] for plan in plans],
                    )


class Waste(unittest.TestCase):
    def test_what_the_cuts_lose_is_part_of_it(self):
        for machine, hide, waste in (
            ((2, 2), 30, 2),
            ((2, 2), 32, 4),
            ((2, 2), 38, 2),
            ((2, 2), 50, 4),
            ((2, 2), 60, 24),
            ((0, 2), 28, 0),
            ((9, 2), 37, 9),
            ((9, 2), 36, 18),
            ((2, 2), 18, 0),
            ((2, 0), 19, 19),
        ):
            with self.subTest(machine=machine, hide=hide):
                self.assertEqual(last(*making(machine, EXAMPLE), ("waste", hide)), [waste])

    def test_of_plans_alike_in_value_the_best_one_counts(self):
        self.assertEqual(last(*making((0, 5), {12: 9, 5: 1, 10: 5}), ("waste", 20)), [0])
        self.assertEqual(last(*making((0, 5), {10: 5, 12: 5}), ("waste", 15)), [3])

    def test_the_whole_hide(self):
        for hide in (0, 1, 60):
            self.assertEqual(last(("create", 0, 5), ("waste", hide)), [hide])
        self.assertEqual(last(*making((2, 2), EXAMPLE), ("waste", 0)), [0])
        self.assertEqual(last(*making((2, 2), EXAMPLE), ("waste", 9)), [9])

    def test_hide(self):
        for hide in (61, GREATEST):
            self.assertEqual(last(*making((2, 2), EXAMPLE), ("waste", hide)), [-22])
            self.assertEqual(last(("create", 2, 2), ("waste", hide)), [-22])


class LayersOfProduct(unittest.TestCase):
    def test_the_number_in_the_best_plan(self):
        for hide, thickness, count in (
            (38, 18, 2),
            (38, 10, 0),
            (30, 18, 1),
            (30, 10, 1),
            (50, 18, 2),
            (50, 10, 1),
            (58, 18, 3),
            (17, 18, 0),
            (17, 10, 1),
            (0, 10, 0),
            (60, 10, 0),
        ):
            with self.subTest(hide=hide, thickness=thickness):
                self.assertEqual(last(*making((2, 2), EXAMPLE), ("layers_of_product", hide, thickness)), [count])
        self.assertEqual(last(*making((0, 5), {10: 7}), ("layers_of_product", 60, 10)), [6])

    def test_of_plans_alike_in_value_the_best_one_counts(self):
        begin = making((0, 5), {12: 9, 5: 1, 10: 5})
        self.assertEqual(
            run(*begin, *[("layers_of_product", 20, thickness) for thickness in (12, 10, 5)])[4:], [[0], [2], [0]]
        )

    def test_errors_in_their_order(self):
        for hide, thickness, code in (
            (60, 11, -2),
            (61, 11, -2),
            (GREATEST, 0, -2),
            (GREATEST, GREATEST, -2),
            (10, 61, -2),
            (0, 2, -2),
            (61, 10, -22),
            (GREATEST, 18, -22),
        ):
            with self.subTest(hide=hide, thickness=thickness):
                self.assertEqual(last(*making((2, 2), EXAMPLE), ("layers_of_product", hide, thickness)), [code])

    def test_a_product_that_is_no_more(self):
        self.assertEqual(
            run(*making((2, 2), EXAMPLE), ("remove_product", 10), ("layers_of_product", 30, 10))[3:], [[1], [-2]]
        )
        self.assertEqual(last(("create", 2, 2), ("layers_of_product", 30, 10)), [-2])


if __name__ == "__main__":
    unittest.main()
