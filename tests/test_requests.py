"""Whole requests of all the calls in any order, answered as a plain model of the document answers them."""

import random
import unittest

from model import Model
from request import GREATEST, NUMBERS, run

THICKNESSES = (3, 4, 5, 6, 7, 8, 9, 10, 12, 15, 18, 20, 31, 59, 60)
# What each call is handed, by the kinds of numbers below.
ARGUMENTS = {
    "create": "loss cuts", "add_product": "thickness price", "remove_product": "thickness",
    "set_price": "thickness price", "get_products": "", "set_machine": "loss cuts", "plan_value": "plan",
    "fits": "hide plan", "cut_count": "hide plan", "best_value": "hide", "best_plan": "hide", "waste": "hide",
    "plan_count": "hide", "best_plan_count": "hide", "value_table": "", "least_thickness": "value",
    "value_with_machine": "loss cuts hide", "value_with_product": "thickness price hide",
    "layers_of_product": "hide thickness", "value_of_two": "hide hide",
}
WITHIN = {
    "loss": (0, 0, 0, 1, 2, 3, 9), "cuts": (0, 1, 2, 3, 4, 5, 5, 5), "thickness": THICKNESSES,
    "price": (1, 2, 3, 3, 4, 4, 5, 6, 8, 10, 99), "hide": range(61),
    "value": (0, 1, 2, 5, 8, 10, 15, 20, 30, 60, 99, 100, 250, 594, 999),
}
OUTSIDE = {
    "loss": (10, GREATEST), "cuts": (6, GREATEST), "thickness": (0, 2, 61, GREATEST), "price": (0, 100, GREATEST),
    "hide": (61, GREATEST), "value": (1000, GREATEST),
}
# The refusals of each call; the requests are to meet them all.
REFUSALS = {name: {-11, -22} for name in NUMBERS} | {
    "create": {-22}, "add_product": {-11, -22, -17, -28}, "remove_product": {-11, -2}, "set_price": {-11, -2, -22},
    "get_products": {-11}, "cut_count": {-11, -22, -33}, "value_table": {-11}, "least_thickness": {-11, -22, -33},
    "value_with_product": {-11, -22, -17}, "layers_of_product": {-11, -2, -22},
}
# How often a thickness is chosen among the products that there are.
HOW_OFTEN_A_PRODUCT = {"add_product": 0.1, "value_with_product": 0.1, "remove_product": 0.3}


def some_plan(source, thicknesses):
    count = source.choice((0, 1, 1, 2, 2, 3, 4, 6, 7, 8))
    layers = [source.choice(thicknesses or THICKNESSES) for position in range(count)]
    return layers if source.random() < 0.2 else sorted(layers, reverse=True)


def some_call(source, name, thicknesses):
    """Give a call of this name; some of its numbers are outside the limits."""
    numbers = []
    for kind in ARGUMENTS[name].split():
        if kind == "plan":
            numbers += some_plan(source, thicknesses)
        elif source.random() < 0.05:
            numbers.append(source.choice(OUTSIDE[kind]))
        elif kind == "thickness" and thicknesses and source.random() < HOW_OFTEN_A_PRODUCT.get(name, 0.8):
            numbers.append(source.choice(thicknesses))
        else:
            numbers.append(source.choice(WITHIN[kind]))
    return (name, *numbers)


def some_names(source):
    """Give the names of at most 60 calls; most often a splitter and its products come first."""
    begin = []
    if source.random() < 0.9:
        begin = ["create"] + ["add_product"] * source.randint(0, 10)
    # Another create comes seldom, as it ends what came before.
    others = [name for name in sorted(NUMBERS) if name != "create" or source.random() < 0.3]
    return begin + [source.choice(others) for position in range(source.randint(1, 60 - len(begin)))]


def some_request(source):
    """Give the calls of a request, and what the model answers."""
    model = Model()
    calls = []
    answered = []
    for name in some_names(source):
        call = some_call(source, name, sorted(model.prices))
        calls.append(call)
        answered.append(model.answer(*call))
    return calls, answered


class Requests(unittest.TestCase):
    def test_the_same_as_the_model(self):
        source = random.Random(2711)
        codes = {name: set() for name in NUMBERS}
        carried_out = {name: 0 for name in NUMBERS}
        for number in range(200):
            calls, answered = some_request(source)
            with self.subTest(number=number):
                self.assertEqual(list(zip(calls, run(*calls))), list(zip(calls, answered)))
            for (name, *arguments), answer in zip(calls, answered):
                if answer[0] < 0:
                    codes[name].add(answer[0])
                else:
                    carried_out[name] += 1
        self.assertEqual(codes, REFUSALS)
        self.assertGreater(min(carried_out.values()), 20)


if __name__ == "__main__":
    unittest.main()
