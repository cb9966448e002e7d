"""What the tests share: requests written by name, and a plain search that follows the document's terms."""

import random
from itertools import combinations_with_replacement

from hidelayers.splitter import answers

NUMBERS = {
    name: number
    for number, name in enumerate(
        "create add_product remove_product set_price get_products set_machine plan_value fits cut_count best_value "
        "best_plan waste plan_count best_plan_count value_table least_thickness value_with_machine "
        "value_with_product layers_of_product value_of_two".split()
    )
}

GREATEST = 4294967295

# The document's example, and what it tells of the answers.
EXAMPLE = [
    ("create", 2, 2),
    ("add_product", 10, 5),
    ("add_product", 18, 11),
    ("best_plan", 30),
    ("best_value", 30),
    ("waste", 30),
    ("cut_count", 30, 18, 10),
    ("fits", 32, 18, 10),
    ("best_plan", 38),
    ("least_thickness", 11),
    ("value_with_machine", 0, 1, 36),
    ("layers_of_product", 38, 18),
    ("plan_value", 10, 18),
]
EXAMPLE_ANSWERS = [[0], [1], [2], [2, 18, 10], [16], [2], [1], [1], [2, 18, 18], [18], [22], [2], [-22]]

HIDES = range(61)


def written(calls):
    """Write calls such as ("fits", 32, 18, 10) in the form that is handed in."""
    numbers = []
    for name, *arguments in calls:
        numbers += [NUMBERS[name], len(arguments), *arguments, 0]
    return numbers


def read(answered):
    """Part what is answered into a list for each call."""
    parts = []
    position = 0
    while position < len(answered):
        behind = position + 1 + answered[position]
        assert behind <= len(answered), "the answer ends within a call"
        parts.append(answered[position + 1:behind])
        position = behind
    return parts


def run(*calls):
    """Carry out the calls as one request; give a list for each call."""
    parts = read(answers(written(calls)))
    assert len(parts) == len(calls), "there is not one answer for each call"
    return parts


def last(*calls):
    """Carry out the calls as one request; give the answer to the last."""
    return run(*calls)[-1]


def making(machine, prices):
    """Give the calls that make a splitter with this cut loss and greatest number of cuts, and these products."""
    return [("create", *machine)] + [("add_product", *product) for product in prices.items()]


def ask_all(machine, prices, calls):
    """Ask the same splitter every call, in requests of at most 60 calls; give a list for each call."""
    begin = making(machine, prices)
    room = 60 - len(begin)
    parts = []
    for position in range(0, len(calls), room):
        parts += run(*begin, *calls[position:position + room])[len(begin):]
    return parts


def splitters():
    """Give pairs of a machine and prices: some written out, and others that are the same each time."""
    yield (0, 0), {}
    yield (2, 2), {10: 5, 18: 11}
    yield (0, 5), {3: 1, 4: 1, 5: 2, 6: 2, 7: 3, 8: 3}
    yield (0, 5), {10: 7}
    yield (9, 5), {3: 99, 60: 99}
    yield (1, 3), {5: 9, 11: 9, 12: 20, 13: 22, 30: 40, 59: 60}
    yield (0, 0), {12: 1, 15: 2, 30: 3}
    source = random.Random(164)
    for count in list(range(1, 7)) * 3:
        thicknesses = source.sample(range(3, 25), count)
        yield (source.randint(0, 9), source.randint(0, 5)), {each: source.randint(1, 99) for each in thicknesses}


def used(plan, cut_loss):
    return sum(plan) + cut_loss * max(len(plan) - 1, 0)


def cuts(plan, cut_loss, hide):
    if len(plan) == 0:
        return 0
    return len(plan) - 1 + (1 if used(plan, cut_loss) < hide else 0)


def worth(plan, prices):
    return sum(prices[layer] for layer in plan)


def all_plans(prices):
    thickest_first = sorted(prices, reverse=True)
    return [plan for count in range(7) for plan in combinations_with_replacement(thickest_first, count)]


def fitting_by_search(machine, prices, hide):
    """List the plans that fit, found among all plans."""
    cut_loss, max_cuts = machine
    return [
        plan for plan in all_plans(prices)
        if used(plan, cut_loss) <= hide and cuts(plan, cut_loss, hide) <= max_cuts
    ]


def best_plan_by_search(machine, prices, hide):
    """Give the best plan, found among all plans."""
    def rank(plan):
        # Lists compare as the order of plans does, once the thicker layer is made the smaller number.
        return (-worth(plan, prices), cuts(plan, machine[0], hide), [-layer for layer in plan])

    return min(fitting_by_search(machine, prices, hide), key=rank)


def best_value_by_search(machine, prices, hide):
    """Give the best value, found among all plans."""
    return max(worth(plan, prices) for plan in fitting_by_search(machine, prices, hide))
