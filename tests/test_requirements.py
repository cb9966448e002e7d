"""The document's requirements 1 to 6, over a number of splitters and every hide."""

import unittest

from request import HIDES, ask_all, cuts, fitting_by_search, splitters, worth


def best_values(machine, prices):
    return [value for (value,) in ask_all(machine, prices, [("best_value", hide) for hide in HIDES])]


def best_plans(machine, prices):
    answers = ask_all(machine, prices, [("best_plan", hide) for hide in HIDES])
    return [plan for count, *plan in answers]


def layer_counts(machine, prices):
    answers = ask_all(machine, prices, [("best_plan", hide) for hide in HIDES])
    return [answer[0] for answer in answers]


class Requirements(unittest.TestCase):
    def test_1_the_best_plan_is_optimal(self):
        for machine, prices in splitters():
            cut_loss, max_cuts = machine
            with self.subTest(machine=machine, prices=prices):
                plans = best_plans(machine, prices)
                for hide, value in enumerate(best_values(machine, prices)):
                    best = plans[hide]
                    self.assertIn(tuple(best), fitting_by_search(machine, prices, hide))
                    self.assertEqual(worth(best, prices), value)
                    for plan in fitting_by_search(machine, prices, hide):
                        self.assertLessEqual(worth(plan, prices), value)
                        if worth(plan, prices) == value:
                            self.assertLessEqual(cuts(best, cut_loss, hide), cuts(plan, cut_loss, hide))

    def test_2_dividing_a_hide_never_helps(self):
        pairs = 0
        for machine, prices in splitters():
            cut_loss, max_cuts = machine
            value = best_values(machine, prices)
            layers = layer_counts(machine, prices)
            asked = [
                (first, second)
                for first in HIDES
                for second in range(first, 61 - cut_loss - first)
                if layers[first] + layers[second] <= max_cuts
            ]
            answers = ask_all(machine, prices, [("value_of_two", *pair) for pair in asked])
            for (first, second), (value_of_two,) in zip(asked, answers):
                pairs += 1
                self.assertEqual(value_of_two, value[first] + value[second])
                self.assertLessEqual(value_of_two, value[first + second + cut_loss])
        self.assertGreater(pairs, 1000)

    def test_3_a_thicker_hide_is_not_worth_less(self):
        pairs = 0
        for machine, prices in splitters():
            value = best_values(machine, prices)
            layers = layer_counts(machine, prices)
            for hide in HIDES:
                if layers[hide] <= machine[1]:
                    for thicker in range(hide + 1, 61):
                        pairs += 1
                        self.assertLessEqual(value[hide], value[thicker])
        self.assertGreater(pairs, 1000)

    def test_4_a_better_machine_is_not_worth_less(self):
        pairs = 0
        for (cut_loss, max_cuts), prices in splitters():
            value = best_values((cut_loss, max_cuts), prices)
            layers = layer_counts((cut_loss, max_cuts), prices)
            for better in [(loss, cuts) for loss in range(cut_loss + 1) for cuts in range(max_cuts, 6)]:
                hides = [hide for hide in HIDES if layers[hide] <= better[1]]
                answers = ask_all(
                    (cut_loss, max_cuts), prices, [("value_with_machine", *better, hide) for hide in hides]
                )
                for hide, (new_value,) in zip(hides, answers):
                    pairs += 1
                    self.assertLessEqual(value[hide], new_value)
        self.assertGreater(pairs, 1000)

    def test_5_the_layers_and_the_waste_are_the_hide(self):
        for machine, prices in splitters():
            with self.subTest(machine=machine, prices=prices):
                plans = best_plans(machine, prices)
                for hide, (waste,) in enumerate(ask_all(machine, prices, [("waste", hide) for hide in HIDES])):
                    self.assertEqual(sum(plans[hide]) + waste, hide)
                    self.assertGreaterEqual(waste, machine[0] * max(len(plans[hide]) - 1, 0))

    def test_6_the_least_thickness_is_sufficient_and_no_smaller_one_is(self):
        for machine, prices in splitters():
            with self.subTest(machine=machine, prices=prices):
                best = best_values(machine, prices)
                asked = sorted({max(value + step, 0) for value in best for step in (-1, 0, 1)} | {1, 998, 999})
                answers = ask_all(machine, prices, [("least_thickness", value) for value in asked])
                for value, (thickness,) in zip(asked, answers):
                    if thickness == -33:
                        self.assertLess(max(best), value)
                    else:
                        self.assertGreaterEqual(best[thickness], value)
                        self.assertTrue(all(smaller < value for smaller in best[:thickness]))


if __name__ == "__main__":
    unittest.main()
