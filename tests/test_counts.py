"""How many plans fit, and how many of them have the best value: plan_count and best_plan_count."""

import unittest

from request import (
    GREATEST, HIDES, ask_all, best_value_by_search, fitting_by_search, last, making, run, splitters, worth,
)


def counts(machine, prices, hide):
    """Give plan_count and best_plan_count."""
    parts = run(*making(machine, prices), ("plan_count", hide), ("best_plan_count", hide))
    return tuple(number for part in parts[-2:] for number in part)


class Counts(unittest.TestCase):
    def test_the_plan_without_layers_counts(self):
        for hide, expected in (
            (0, (1, 1)),
            (9, (1, 1)),
            (10, (2, 1)),
            (18, (3, 1)),
            (30, (5, 1)),
            (38, (6, 1)),
        ):
            with self.subTest(hide=hide):
                self.assertEqual(counts((2, 2), {10: 5, 18: 11}, hide), expected)

    def test_no_product(self):
        for machine in ((0, 0), (0, 5), (9, 5)):
            for hide in (0, 1, 60):
                self.assertEqual(counts(machine, {}, hide), (1, 1))

    def test_hide(self):
        for prices in ({}, {3: 1, 60: 40}):
            for hide in (61, GREATEST):
                self.assertEqual(counts((2, 2), prices, hide), (-22, -22))
        self.assertEqual(counts((2, 2), {3: 1, 60: 40}, 60), (4, 1))
        self.assertEqual(counts((2, 2), {3: 1, 60: 40}, 0), (1, 1))

    def test_no_cuts(self):
        for hide, expected in ((8, (1, 1)), (9, (2, 1)), (10, (1, 1)), (18, (2, 1)), (19, (1, 1)), (60, (1, 1))):
            with self.subTest(hide=hide):
                self.assertEqual(counts((0, 0), {18: 11, 9: 6}, hide), expected)

    def test_six_layers_that_use_the_whole_hide(self):
        self.assertEqual(counts((0, 5), {10: 7}, 60), (7, 1))
        self.assertEqual(counts((0, 5), {10: 7}, 59), (6, 1))
        self.assertEqual(counts((0, 4), {10: 7}, 60), (5, 1))
        self.assertEqual(counts((2, 5), {8: 7}, 58), (7, 1))
        self.assertEqual(counts((2, 5), {8: 7}, 59), (6, 1))

    def test_plans_alike_in_value(self):
        # It is of no weight how many cuts they need.
        self.assertEqual(counts((0, 5), {12: 9, 5: 1, 10: 5}, 20), (11, 2))
        self.assertEqual(counts((0, 5), {10: 5, 12: 5}, 15), (3, 2))
        self.assertEqual(counts((0, 2), {13: 6, 7: 3, 15: 9}, 27), (9, 3))

    def test_many(self):
        # No six of these layers use the hide up, so the plans are those of at most five.
        prices = {thickness: 1 for thickness in range(3, 9)}
        self.assertEqual(counts((0, 5), prices, 60), (462, 252))
        self.assertEqual(counts((0, 5), prices, 18), (len(fitting_by_search((0, 5), prices, 18)), 1))
        self.assertEqual(counts((0, 5), {3: 1, 10: 1}, 60), (22, 1))

    def test_the_same_as_a_plain_search(self):
        for machine, prices in splitters():
            with self.subTest(machine=machine, prices=prices):
                fitting = [fitting_by_search(machine, prices, hide) for hide in HIDES]
                best = [best_value_by_search(machine, prices, hide) for hide in HIDES]
                self.assertEqual(
                    ask_all(machine, prices, [("plan_count", hide) for hide in HIDES]),
                    [[len(plans)] for plans in fitting],
                )
                self.assertEqual(
                    ask_all(machine, prices, [("best_plan_count", hide) for hide in HIDES]),
                    [
                        [sum(worth(plan, prices) == value for plan in plans)]
                        for plans, value in zip(fitting, best)
                    ],
                )


if __name__ == "__main__":
    unittest.main()
