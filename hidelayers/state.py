"""The splitter: its products, its machine, and what is asked of them."""

from hidelayers.errors import HideTooThin, NoSuchProduct, NoThickness, ProductExists, TooManyProducts
from hidelayers.limits import (
    MAX_HIDE,
    MAX_PRODUCTS,
    check_hide,
    check_machine,
    check_plan,
    check_price,
    check_thickness,
    check_value,
)
from hidelayers.plans import (
    fitting_plans,
    greatest_value,
    number_of_cuts,
    plan_fits,
    sum_of_prices,
    thinnest_hides,
    used_thickness,
)

TABLE_STEP = 5


class Splitter:
    """A machine with its cut loss and greatest number of cuts, and the price of each thickness."""

    def __init__(self, cut_loss, max_cuts):
        check_machine(cut_loss, max_cuts)
        self.cut_loss = cut_loss
        self.max_cuts = max_cuts
        self.prices = {}

    def check_product(self, thickness):
        """Refuse a thickness that is no product's."""
        if thickness not in self.prices:
            raise NoSuchProduct()

    def check_new_product(self, thickness):
        """Refuse a thickness that is a product's already."""
        if thickness in self.prices:
            raise ProductExists()

    def add_product(self, thickness, price):
        """Add a product; give the number of products."""
        check_thickness(thickness)
        check_price(price)
        self.check_new_product(thickness)
        if len(self.prices) >= MAX_PRODUCTS:
            raise TooManyProducts()
        self.prices[thickness] = price
        return len(self.prices)

    def remove_product(self, thickness):
        """Remove a product; give the number of those that remain."""
        self.check_product(thickness)
        self.prices.pop(thickness)
        return len(self.prices)

    def set_price(self, thickness, price):
        """Change the price of a product; give the previous one."""
        self.check_product(thickness)
        check_price(price)
        old_price = self.prices[thickness]
        self.prices[thickness] = price
        return old_price

    def get_products(self):
        """List the products as pairs of thickness and price, the thickest first."""
        return [(thickness, self.prices[thickness]) for thickness in sorted(self.prices, reverse=True)]

    def set_machine(self, cut_loss, max_cuts):
        """Change the machine; give the previous cut loss and greatest number of cuts."""
        check_machine(cut_loss, max_cuts)
        old_machine = (self.cut_loss, self.max_cuts)
        self.cut_loss = cut_loss
        self.max_cuts = max_cuts
        return old_machine

    def plan_value(self, plan):
        """Give the sum of the prices of the layers."""
        check_plan(plan, self.prices)
        return sum_of_prices(plan, self.prices)

    def fits(self, hide, plan):
        """Tell whether the hide and the machine are enough for the plan."""
        check_hide(hide)
        check_plan(plan, self.prices)
        return plan_fits(plan, self.cut_loss, self.max_cuts, hide)

    def cut_count(self, hide, plan):
        """Give the number of cuts of the plan, whether or not the machine makes so many."""
        check_hide(hide)
        check_plan(plan, self.prices)
        if used_thickness(plan, self.cut_loss) > hide:
            raise HideTooThin()
        return number_of_cuts(plan, self.cut_loss, hide)

    def plans_for(self, hide):
        """List the plans that fit the hide, in the order of plans."""
        check_hide(hide)
        return fitting_plans(list(self.prices), self.cut_loss, self.max_cuts, hide)

    def best_value(self, hide):
        """Give the greatest value of a plan that fits the hide."""
        check_hide(hide)
        return greatest_value(self.prices, self.cut_loss, self.max_cuts, hide)

    def best_plan(self, hide):
        """Give the plan with the greatest value, then the fewest cuts, then the first in the order of plans."""
        # Of plans that are alike in value and cuts, min takes the one that is listed first.
        return min(
            self.plans_for(hide),
            key=lambda plan: (-sum_of_prices(plan, self.prices), number_of_cuts(plan, self.cut_loss, hide)),
        )

    def waste(self, hide):
        """Give what is left of the hide beside the layers of the best plan."""
        return hide - sum(self.best_plan(hide))

    def plan_count(self, hide):
        """Give the number of plans that fit the hide."""
        return len(self.plans_for(hide))

    def best_plan_count(self, hide):
        """Give the number of plans that fit the hide and have the best value."""
        values = [sum_of_prices(plan, self.prices) for plan in self.plans_for(hide)]
        return values.count(max(values))

    def value_table(self):
        """List the best values for hides in equal steps up to the thickest."""
        return [self.best_value(hide) for hide in range(TABLE_STEP, MAX_HIDE + 1, TABLE_STEP)]

    def least_thickness(self, value):
        """Give the thickness of the thinnest hide with at least this best value."""
        check_value(value)
        hides = thinnest_hides(self.prices, self.cut_loss, self.max_cuts, value)
        if not hides:
            raise NoThickness()
        return min(hides)

    def value_with_machine(self, cut_loss, max_cuts, hide):
        """Give the best value that another machine would have."""
        check_machine(cut_loss, max_cuts)
        check_hide(hide)
        return greatest_value(self.prices, cut_loss, max_cuts, hide)

    def value_with_product(self, thickness, price, hide):
        """Give the best value with an additional product, however many there are."""
        check_thickness(thickness)
        check_price(price)
        check_hide(hide)
        self.check_new_product(thickness)
        prices = dict(self.prices)
        prices[thickness] = price
        return greatest_value(prices, self.cut_loss, self.max_cuts, hide)

    def layers_of_product(self, hide, thickness):
        """Give the number of layers of the product in the best plan."""
        self.check_product(thickness)
        return self.best_plan(hide).count(thickness)

    def value_of_two(self, first, second):
        """Give the sum of the best values for two hides."""
        return self.best_value(first) + self.best_value(second)
