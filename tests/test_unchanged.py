"""What is only asked changes nothing: what is asked again afterwards is answered as before."""

import unittest

from request import GREATEST, last, making, run

SIX = {60: 60, 50: 50, 20: 20, 11: 11, 7: 7, 3: 3}
SPLITTERS = [((0, 5), {}), ((2, 2), {10: 5, 18: 11}), ((1, 4), SIX), ((0, 0), {12: 5, 9: 7})]
ASKED = [
    ("get_products",),
    ("best_value", 60),
    ("best_plan", 60),
    ("best_plan", 38),
    ("waste", 38),
    ("plan_count", 60),
    ("best_plan_count", 60),
    ("value_table",),
    ("least_thickness", 22),
    ("least_thickness", 999),
    ("value_with_machine", 0, 1, 36),
    ("value_with_product", 30, 40, 42),
    ("layers_of_product", 38, 18),
    ("value_of_two", 30, 38),
]
BETWEEN = [
    ("best_plan", 58),
    ("best_plan", 0),
    ("best_plan", 61),
    ("waste", 60),
    ("waste", 61),
    ("plan_count", 60),
    ("plan_count", 61),
    ("best_plan_count", 60),
    ("best_plan_count", GREATEST),
    ("value_table",),
    ("least_thickness", 0),
    ("least_thickness", 20),
    ("least_thickness", 999),
    ("least_thickness", 1000),
    ("value_with_machine", 0, 5, 60),
    ("value_with_machine", 9, 0, 10),
    ("value_with_machine", 9, 0, 61),
    ("value_with_machine", 10, 0, 60),
    ("value_with_machine", 0, 6, 60),
    ("value_with_product", 4, 99, 60),
    ("value_with_product", 10, 99, 60),
    ("value_with_product", 12, 99, 60),
    ("value_with_product", 60, 99, 60),
    ("value_with_product", 4, 99, 61),
    ("value_with_product", 4, 0, 60),
    ("value_with_product", 61, 1, 60),
    ("layers_of_product", 60, 10),
    ("layers_of_product", 61, 10),
    ("layers_of_product", 61, 12),
    ("layers_of_product", 60, 4),
    ("value_of_two", 60, 59),
    ("value_of_two", 61, 0),
    ("value_of_two", 0, 61),
]


class Unchanged(unittest.TestCase):
    def test_each_call_by_itself(self):
        for machine, prices in SPLITTERS:
            begin = making(machine, prices)
            for call in BETWEEN:
                with self.subTest(machine=machine, prices=prices, call=call):
                    answered = run(*begin, *ASKED, call, *ASKED, call, ("set_machine", 0, 0))[len(begin):]
                    half = len(ASKED) + 1
                    self.assertEqual(answered[half:2 * half], answered[:half])
                    self.assertEqual(answered[-1], [0, *machine])

    def test_all_of_them(self):
        for machine, prices in SPLITTERS:
            begin = making(machine, prices)
            with self.subTest(machine=machine, prices=prices):
                expected = run(*begin, *ASKED)[len(begin):]
                self.assertEqual(run(*begin, *BETWEEN, *ASKED)[-len(ASKED):], expected)
                listed = [number for product in sorted(prices.items(), reverse=True) for number in product]
                self.assertEqual(last(*begin, *BETWEEN, ("get_products",)), [len(prices), *listed])
                self.assertEqual(last(*begin, *BETWEEN, ("set_machine", 0, 0)), [0, *machine])

    def test_no_splitter_comes_of_them(self):
        self.assertEqual(run(*BETWEEN, ("get_products",)), [[-11]] * (len(BETWEEN) + 1))
        self.assertEqual(run(*BETWEEN, ("create", 2, 2), ("get_products",))[-2:], [[0], [0]])


if __name__ == "__main__":
    unittest.main()
