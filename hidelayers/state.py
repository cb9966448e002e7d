"""The splitter: its products, its machine, and what is asked of them."""

from hidelayers.errors import HideTooThin, NoSuchProduct, ProductExists, TooManyProducts
from hidelayers.limits import MAX_PRODUCTS, check_hide, check_machine, check_plan, check_price, check_thickness
from hidelayers.plans import number_of_cuts, plans_within, sum_of_prices, used_thickness


class Splitter:
    """A machine with its cut loss and greatest number of cuts, and the price of each thickness."""

    def __init__(self, cut_loss, max_cuts):
        check_machine(cut_loss, max_cuts)
        self.cut_loss = cut_loss
        self.max_cuts = max_cuts
        self.prices = {}

    def check_product(self, thickness):
        """Refuse a thickness that is no product's."""
        if thickness not in self.prices:
            raise NoSuchProduct()

    def add_product(self, thickness, price):
        """Add a product; give the number of products."""
        check_thickness(thickness)
        check_price(price)
        if thickness in self.prices:
            raise ProductExists()
        if len(self.prices) >= MAX_PRODUCTS:
            raise TooManyProducts()
        self.prices[thickness] = price
        return len(self.prices)

    def remove_product(self, thickness):
        """Remove a product; give the number of those that remain."""
        self.check_product(thickness)
        self.prices.pop(thickness)
        return len(self.prices)

    def set_price(self, thickness, price):
        """Change the price of a product; give the previous one."""
        self.check_product(thickness)
        check_price(price)
        old_price = self.prices[thickness]
        self.prices[thickness] = price
        return old_price

    def get_products(self):
        """List the products as pairs of thickness and price, the thickest first."""
        return [(thickness, self.prices[thickness]) for thickness in sorted(self.prices, reverse=True)]

    def set_machine(self, cut_loss, max_cuts):
        """Change the machine; give the previous cut loss and greatest number of cuts."""
        check_machine(cut_loss, max_cuts)
        old_machine = (self.cut_loss, self.max_cuts)
        self.cut_loss = cut_loss
        self.max_cuts = max_cuts
        return old_machine

    def plan_value(self, plan):
        """Give the sum of the prices of the layers."""
        check_plan(plan, self.prices)
        return sum_of_prices(plan, self.prices)

    def fits(self, hide, plan):
        """Tell whether the hide and the machine are enough for the plan."""
        check_hide(hide)
        check_plan(plan, self.prices)
        if used_thickness(plan, self.cut_loss) > hide:
            return False
        return number_of_cuts(plan, self.cut_loss, hide) <= self.max_cuts

    def cut_count(self, hide, plan):
        """Give the number of cuts of the plan, whether or not the machine makes so many."""
        check_hide(hide)
        check_plan(plan, self.prices)
        if used_thickness(plan, self.cut_loss) > hide:
            raise HideTooThin()
        return number_of_cuts(plan, self.cut_loss, hide)

    def fitting_plans(self, hide):
        """List the plans that fit the hide, in the order of plans."""
        plans = plans_within(list(self.prices), self.cut_loss, hide)
        return [plan for plan in plans if number_of_cuts(plan, self.cut_loss, hide) <= self.max_cuts]

    def best_value(self, hide):
        """Give the greatest value of a plan that fits the hide."""
        check_hide(hide)
        return max([sum_of_prices(plan, self.prices) for plan in self.fitting_plans(hide)])
