"""The refusals: one class for each reason, with the code that answers the call."""


class Refusal(Exception):
    """A call that can't be carried out; each kind of refusal has its own code."""


class NoSplitter(Refusal):
    """There is no splitter."""

    def __init__(self):
        self.code = -11


class NoSuchProduct(Refusal):
    """There is no such product."""

    def __init__(self):
        self.code = -2


class OutsideLimits(Refusal):
    """An argument is outside its limits."""

    def __init__(self):
        self.code = -22


class ProductExists(Refusal):
    """There is already a product with this thickness."""

    def __init__(self):
        self.code = -17


class TooManyProducts(Refusal):
    """There are already as many products as a splitter holds."""

    def __init__(self):
        self.code = -28


class HideTooThin(Refusal):
    """The plan uses more than the hide."""

    def __init__(self):
        self.code = -33


class NoThickness(Refusal):
    """No thickness of a hide is sufficient for the value."""

    def __init__(self):
        self.code = -33
