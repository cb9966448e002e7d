"""What is asked of a plan: plan_value, fits and cut_count; and the order of plans."""

import unittest

from request import GREATEST, all_plans, last, making, run, used

from hidelayers.plans import plans_within, used_thickness

PRICES = {10: 5, 18: 11, 4: 2}
NO_PLANS = (
    (10, 18),
    (18, 4, 10),
    (4, 4, 10),
    (4, 4, 4, 4, 4, 10),
    (11,),
    (18, 11),
    (18, 10, 3),
    (0,),
    (18, 0),
    (61,),
    (GREATEST,),
    (4, 4, 4, 4, 4, 4, 4),
    (18, 10, 4, 4, 4, 4, 4),
    (4, 4, 4, 4, 4, 4, 4, 4),
)


def asked(machine, call):
    return last(*making(machine, PRICES), call)


class PlanValue(unittest.TestCase):
    def test_the_sum_of_the_prices(self):
        for plan, value in (
            ((), 0),
            ((4,), 2),
            ((18, 18), 22),
            ((18, 10), 16),
            ((18, 10, 10, 4), 23),
            ((18, 18, 18, 18, 18, 18), 66),
        ):
            with self.subTest(plan=plan):
                # Neither the hide nor the machine is asked for, so it may be more than any hide.
                self.assertEqual(asked((9, 0), ("plan_value", *plan)), [value])

    def test_the_greatest(self):
        self.assertEqual(last(*making((0, 0), {60: 99}), ("plan_value", *[60] * 6)), [594])

    def test_no_plan(self):
        for layers in NO_PLANS:
            with self.subTest(layers=layers):
                self.assertEqual(asked((0, 5), ("plan_value", *layers)), [-22])

    def test_without_products(self):
        self.assertEqual(
            run(("create", 0, 5), ("plan_value",), ("plan_value", 10), ("fits", 0), ("cut_count", 60))[1:],
            [[0], [-22], [1], [0]],
        )


class Fits(unittest.TestCase):
    def test_used_thickness_at_the_hide_and_above_it(self):
        for cut_loss, hide, plan, result in (
            (2, 30, (18, 10), 1),
            (2, 29, (18, 10), 0),
            (2, 31, (18, 10), 1),
            (0, 28, (18, 10), 1),
            (0, 27, (18, 10), 0),
            (9, 37, (18, 10), 1),
            (9, 36, (18, 10), 0),
            (9, 18, (18,), 1),
            (9, 17, (18,), 0),
            (2, 34, (4, 4, 4, 4, 4, 4), 1),
            (2, 33, (4, 4, 4, 4, 4, 4), 0),
            (2, 0, (4,), 0),
        ):
            with self.subTest(cut_loss=cut_loss, hide=hide, plan=plan):
                self.assertEqual(asked((cut_loss, 5), ("fits", hide, *plan)), [result])

    def test_cuts_at_the_greatest_number_and_above_it(self):
        for max_cuts, hide, plan, result in (
            (0, 18, (18,), 1),
            (0, 19, (18,), 0),
            (1, 19, (18,), 1),
            (1, 30, (18, 10), 1),
            (1, 31, (18, 10), 0),
            (0, 30, (18, 10), 0),
            (2, 31, (18, 10), 1),
            (2, 60, (18, 10), 1),
            (4, 34, (4, 4, 4, 4, 4, 4), 0),
            (5, 34, (4, 4, 4, 4, 4, 4), 1),
            (5, 35, (4, 4, 4, 4, 4, 4), 0),
            (5, 29, (4, 4, 4, 4, 4), 1),
            (4, 28, (4, 4, 4, 4, 4), 1),
            (4, 29, (4, 4, 4, 4, 4), 0),
        ):
            with self.subTest(max_cuts=max_cuts, hide=hide, plan=plan):
                self.assertEqual(asked((2, max_cuts), ("fits", hide, *plan)), [result])

    def test_the_plan_without_layers(self):
        for machine in ((0, 0), (9, 5)):
            for hide in (0, 1, 60):
                self.assertEqual(asked(machine, ("fits", hide)), [1])

    def test_hide(self):
        self.assertEqual(asked((0, 5), ("fits", 60, 18)), [1])
        for hide in (61, GREATEST):
            self.assertEqual(asked((0, 5), ("fits", hide, 18)), [-22])
            self.assertEqual(asked((0, 5), ("fits", hide)), [-22])
            self.assertEqual(asked((0, 5), ("fits", hide, 10, 18)), [-22])

    def test_no_plan(self):
        for layers in NO_PLANS:
            for hide in (0, 60):
                with self.subTest(layers=layers, hide=hide):
                    self.assertEqual(asked((0, 5), ("fits", hide, *layers)), [-22])


class CutCount(unittest.TestCase):
    def test_the_last_cut_is_saved_when_the_hide_is_used_up(self):
        for hide, plan, count in (
            (30, (18, 10), 1),
            (31, (18, 10), 2),
            (60, (18, 10), 2),
            (18, (18,), 0),
            (19, (18,), 1),
            (38, (18, 18), 1),
            (39, (18, 18), 2),
            (34, (4, 4, 4, 4, 4, 4), 5),
            (35, (4, 4, 4, 4, 4, 4), 6),
            (0, (), 0),
            (60, (), 0),
        ):
            # The answer is the same when the machine makes fewer cuts.
            for max_cuts in range(6):
                with self.subTest(hide=hide, plan=plan, max_cuts=max_cuts):
                    self.assertEqual(asked((2, max_cuts), ("cut_count", hide, *plan)), [count])

    def test_more_than_the_hide(self):
        for cut_loss, hide, plan in (
            (2, 29, (18, 10)),
            (9, 36, (18, 10)),
            (0, 27, (18, 10)),
            (0, 0, (4,)),
            (0, 17, (18,)),
            (2, 33, (4, 4, 4, 4, 4, 4)),
            (0, 60, (18, 18, 18, 18)),
        ):
            with self.subTest(cut_loss=cut_loss, hide=hide, plan=plan):
                self.assertEqual(asked((cut_loss, 5), ("cut_count", hide, *plan)), [-33])

    def test_the_limits_come_first(self):
        for layers in NO_PLANS:
            for hide in (0, 60, 61):
                with self.subTest(layers=layers, hide=hide):
                    self.assertEqual(asked((9, 5), ("cut_count", hide, *layers)), [-22])
        for hide in (61, GREATEST):
            for plan in ((), (18,), (18, 18, 18, 18)):
                self.assertEqual(asked((0, 5), ("cut_count", hide, *plan)), [-22])


class UsedThickness(unittest.TestCase):
    def test_a_loss_for_every_two_consecutive_layers(self):
        for plan, thickness in (([], 0), ([18], 18), ([18, 10], 37), ([18, 18, 10], 64)):
            self.assertEqual(used_thickness(plan, 9), thickness)
            self.assertEqual(used_thickness(plan, 0), sum(plan))


class OrderOfPlans(unittest.TestCase):
    def test_all_that_the_hide_is_enough_for(self):
        for cut_loss in (0, 2, 9):
            for hide in (0, 3, 18, 34, 60):
                with self.subTest(cut_loss=cut_loss, hide=hide):
                    expected = sorted(
                        (list(plan) for plan in all_plans(PRICES) if used(plan, cut_loss) <= hide),
                        key=lambda plan: [-layer for layer in plan],
                    )
                    self.assertEqual(plans_within(list(PRICES), cut_loss, hide), expected)

    def test_an_end_comes_first_then_the_thicker_layer(self):
        self.assertEqual(
            plans_within([4, 10], 1, 15), [[], [10], [10, 4], [4], [4, 4], [4, 4, 4]]
        )


if __name__ == "__main__":
    unittest.main()
