"""Plans as lists of thicknesses: their value, their use of the hide, their cuts, and which of them fit."""

from hidelayers.limits import MAX_HIDE, MAX_LAYERS


def sum_of_prices(plan, prices):
    """Give the value of a plan; prices has the price of each thickness."""
    return sum([prices[layer] for layer in plan])


def used_thickness(plan, cut_loss):
    """Give the sum of the layers and of the losses between them."""
    if not plan:
        return 0
    return sum(plan) + cut_loss * (len(plan) - 1)


def number_of_cuts(plan, cut_loss, hide):
    """Give the number of cuts of a plan that uses at most the hide."""
    if not plan:
        return 0
    if used_thickness(plan, cut_loss) < hide:
        return len(plan)
    # Nothing is left behind the last layer, so no cut is needed there.
    return len(plan) - 1


def plan_fits(plan, cut_loss, max_cuts, hide):
    """Tell whether the hide and the machine are enough for the plan."""
    if used_thickness(plan, cut_loss) > hide:
        return False
    return number_of_cuts(plan, cut_loss, hide) <= max_cuts


def longer_plans(plan, thicknesses):
    """List the plans that have one layer more than this one."""
    if len(plan) == MAX_LAYERS:
        return []
    return [plan + [thickness] for thickness in thicknesses if not plan or thickness <= plan[-1]]


def plans_within(thicknesses, cut_loss, hide):
    """List the plans that use at most the hide, in the order of plans."""
    thinnest_first = sorted(thicknesses)
    plans = []
    waiting = [[]]
    while waiting:
        plan = waiting.pop()
        plans.append(plan)
        # The last one is popped first: so the plan with the thicker layer comes first.
        for longer in longer_plans(plan, thinnest_first):
            if used_thickness(longer, cut_loss) <= hide:
                waiting.append(longer)
    return plans


def fitting_plans(thicknesses, cut_loss, max_cuts, hide):
    """List the plans that fit the hide, in the order of plans."""
    plans = plans_within(thicknesses, cut_loss, hide)
    return [plan for plan in plans if plan_fits(plan, cut_loss, max_cuts, hide)]


def greatest_value(prices, cut_loss, max_cuts, hide):
    """Give the greatest value of a plan that fits the hide."""
    # There is always one: the plan without layers fits every hide.
    return max([sum_of_prices(plan, prices) for plan in fitting_plans(list(prices), cut_loss, max_cuts, hide)])


def thinnest_hides(prices, cut_loss, max_cuts, value):
    """List the thinnest hide of each plan that fits a hide and has at least this value."""
    hides = []
    for plan in plans_within(list(prices), cut_loss, MAX_HIDE):
        # No thinner hide is enough for the plan, and none needs fewer cuts than the one that it uses up.
        hide = used_thickness(plan, cut_loss)
        if plan_fits(plan, cut_loss, max_cuts, hide) and sum_of_prices(plan, prices) >= value:
            hides.append(hide)
    return hides
