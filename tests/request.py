"""What the tests share: requests written by name, and a plain search that follows the document's terms."""

from itertools import combinations_with_replacement

from hidelayers.splitter import answers

NUMBERS = {
    name: number
    for number, name in enumerate(
        "create add_product remove_product set_price get_products set_machine plan_value fits cut_count best_value "
        "best_plan waste plan_count best_plan_count value_table least_thickness value_with_machine "
        "value_with_product layers_of_product value_of_two".split()
    )
}

GREATEST = 4294967295

# The document's example, as far as it holds calls that are built.
EXAMPLE = [
    ("create", 2, 2),
    ("add_product", 10, 5),
    ("add_product", 18, 11),
    ("best_value", 30),
    ("cut_count", 30, 18, 10),
    ("fits", 32, 18, 10),
    ("plan_value", 10, 18),
]


def written(calls):
    """Write calls such as ("fits", 32, 18, 10) in the form that is handed in."""
    numbers = []
    for name, *arguments in calls:
        numbers += [NUMBERS[name], len(arguments), *arguments, 0]
    return numbers


def read(answered):
    """Part what is answered into a list for each call."""
    parts = []
    position = 0
    while position < len(answered):
        behind = position + 1 + answered[position]
        assert behind <= len(answered), "the answer ends within a call"
        parts.append(answered[position + 1:behind])
        position = behind
    return parts


def run(*calls):
    """Carry out the calls as one request; give a list for each call."""
    parts = read(answers(written(calls)))
    assert len(parts) == len(calls), "there is not one answer for each call"
    return parts


def last(*calls):
    """Carry out the calls as one request; give the answer to the last."""
    return run(*calls)[-1]


def making(machine, prices):
    """Give the calls that make a splitter with this cut loss and greatest number of cuts, and these products."""
    return [("create", *machine)] + [("add_product", *product) for product in prices.items()]


def used(plan, cut_loss):
    return sum(plan) + cut_loss * max(len(plan) - 1, 0)


def cuts(plan, cut_loss, hide):
    if len(plan) == 0:
        return 0
    return len(plan) - 1 + (1 if used(plan, cut_loss) < hide else 0)


def all_plans(prices):
    thickest_first = sorted(prices, reverse=True)
    return [plan for count in range(7) for plan in combinations_with_replacement(thickest_first, count)]


def best_by_search(machine, prices, hide):
    """Give the best plan's value and how many layers it has, found among all plans."""
    cut_loss, max_cuts = machine
    fitting = [
        plan for plan in all_plans(prices)
        if used(plan, cut_loss) <= hide and cuts(plan, cut_loss, hide) <= max_cuts
    ]

    def rank(plan):
        # Lists compare as the order of plans does, once the thicker layer is made the smaller number.
        return (-sum(prices[layer] for layer in plan), cuts(plan, cut_loss, hide), [-layer for layer in plan])

    best = min(fitting, key=rank)
    return sum(prices[layer] for layer in best), len(best)
