"""Plans as lists of thicknesses: their value, their use of the hide, their cuts, and all there are."""

from hidelayers.limits import MAX_LAYERS


def sum_of_prices(plan, prices):
    """Give the value of a plan; prices has the price of each thickness."""
    return sum([prices[layer] for layer in plan])


def used_thickness(plan, cut_loss):
    """Give the sum of the layers and of the losses between them."""
    if not plan:
        return 0
    return sum(plan) + cut_loss * (len(plan) - 1)


def number_of_cuts(plan, cut_loss, hide):
    """Give the number of cuts of a plan that uses at most the hide."""
    if not plan:
        return 0
    if used_thickness(plan, cut_loss) < hide:
        return len(plan)
    # Nothing is left behind the last layer, so no cut is needed there.
    return len(plan) - 1


def longer_plans(plan, thicknesses):
    """List the plans that have one layer more than this one."""
    if len(plan) == MAX_LAYERS:
        return []
    return [plan + [thickness] for thickness in thicknesses if not plan or thickness <= plan[-1]]


def plans_within(thicknesses, cut_loss, hide):
    """List the plans that use at most the hide, in the order of plans."""
    thinnest_first = sorted(thicknesses)
    plans = []
    waiting = [[]]
    while waiting:
        plan = waiting.pop()
        plans.append(plan)
        # The last one is popped first: so the plan with the thicker layer comes first.
        for longer in longer_plans(plan, thinnest_first):
            if used_thickness(longer, cut_loss) <= hide:
                waiting.append(longer)
    return plans
