"""A plain model of the document, by which whole requests are compared: every call answers its list of numbers."""

from request import HIDES, best_plan_by_search, best_value_by_search, cuts, fitting_by_search, used, worth

NO_SPLITTER, NO_PRODUCT, LIMITS, PRODUCT_EXISTS, TOO_MANY, NOT_SUFFICIENT = -11, -2, -22, -17, -28, -33


def machine_is_off(cut_loss, max_cuts):
    return cut_loss > 9 or max_cuts > 5


def product_is_off(thickness, price):
    return not 3 <= thickness <= 60 or not 1 <= price <= 99


class Model:
    def __init__(self):
        self.machine = None
        self.prices = {}

    def answer(self, name, *arguments):
        if name != "create" and self.machine is None:
            return [NO_SPLITTER]
        answer = getattr(self, name)(*arguments)
        return answer if isinstance(answer, list) else [answer]

    def create(self, cut_loss, max_cuts):
        if machine_is_off(cut_loss, max_cuts):
            return LIMITS
        self.machine = (cut_loss, max_cuts)
        self.prices = {}
        return 0

    def add_product(self, thickness, price):
        if product_is_off(thickness, price):
            return LIMITS
        if thickness in self.prices:
            return PRODUCT_EXISTS
        if len(self.prices) == 6:
            return TOO_MANY
        self.prices[thickness] = price
        return len(self.prices)

    def remove_product(self, thickness):
        if self.prices.pop(thickness, None) is None:
            return NO_PRODUCT
        return len(self.prices)

    def set_price(self, thickness, price):
        if thickness not in self.prices:
            return NO_PRODUCT
        if not 1 <= price <= 99:
            return LIMITS
        old_price, self.prices[thickness] = self.prices[thickness], price
        return old_price

    def get_products(self):
        products = sorted(self.prices.items(), reverse=True)
        return [len(products)] + [number for product in products for number in product]

    def set_machine(self, cut_loss, max_cuts):
        if machine_is_off(cut_loss, max_cuts):
            return LIMITS
        old_machine, self.machine = self.machine, (cut_loss, max_cuts)
        return [0, *old_machine]

    def is_plan(self, layers):
        falling = all(first >= second for first, second in zip(layers, layers[1:]))
        return len(layers) <= 6 and falling and set(layers) <= set(self.prices)

    def plan_value(self, *layers):
        return worth(layers, self.prices) if self.is_plan(layers) else LIMITS

    def fits(self, hide, *layers):
        if hide > 60 or not self.is_plan(layers):
            return LIMITS
        return 1 if layers in fitting_by_search(self.machine, self.prices, hide) else 0

    def cut_count(self, hide, *layers):
        if hide > 60 or not self.is_plan(layers):
            return LIMITS
        return NOT_SUFFICIENT if used(layers, self.machine[0]) > hide else cuts(layers, self.machine[0], hide)

    def best_value(self, hide):
        return LIMITS if hide > 60 else best_value_by_search(self.machine, self.prices, hide)

    def best_plan(self, hide):
        if hide > 60:
            return LIMITS
        plan = best_plan_by_search(self.machine, self.prices, hide)
        return [len(plan), *plan]

    def waste(self, hide):
        return LIMITS if hide > 60 else hide - sum(self.best_plan(hide)[1:])

    def plan_count(self, hide):
        return LIMITS if hide > 60 else len(fitting_by_search(self.machine, self.prices, hide))

    def best_plan_count(self, hide):
        if hide > 60:
            return LIMITS
        values = [worth(plan, self.prices) for plan in fitting_by_search(self.machine, self.prices, hide)]
        return values.count(self.best_value(hide))

    def value_table(self):
        return [12] + [self.best_value(hide) for hide in (5, 10, 15, 20, 25, 30, 35, 40, 45, 50, 55, 60)]

    def least_thickness(self, value):
        if value > 999:
            return LIMITS
        return next((hide for hide in HIDES if self.best_value(hide) >= value), NOT_SUFFICIENT)

    def value_with_machine(self, cut_loss, max_cuts, hide):
        if machine_is_off(cut_loss, max_cuts) or hide > 60:
            return LIMITS
        return best_value_by_search((cut_loss, max_cuts), self.prices, hide)

    def value_with_product(self, thickness, price, hide):
        if product_is_off(thickness, price) or hide > 60:
            return LIMITS
        if thickness in self.prices:
            return PRODUCT_EXISTS
        return best_value_by_search(self.machine, {**self.prices, thickness: price}, hide)

    def layers_of_product(self, hide, thickness):
        if thickness not in self.prices:
            return NO_PRODUCT
        return LIMITS if hide > 60 else self.best_plan(hide)[1:].count(thickness)

    def value_of_two(self, first, second):
        if first > 60 or second > 60:
            return LIMITS
        return self.best_value(first) + self.best_value(second)
