"""The limits of the arguments, and the checks that refuse what is outside them."""

from hidelayers.errors import OutsideLimits

MIN_THICKNESS = 3
MAX_THICKNESS = 60
MIN_PRICE = 1
MAX_PRICE = 99
MAX_CUT_LOSS = 9
MAX_CUTS = 5
MAX_HIDE = 60
MAX_VALUE = 999
MAX_PRODUCTS = 6
MAX_LAYERS = 6


def check_machine(cut_loss, max_cuts):
    """Refuse a machine that can't be."""
    if cut_loss > MAX_CUT_LOSS or max_cuts > MAX_CUTS:
        raise OutsideLimits()


def check_thickness(thickness):
    """Refuse a thickness that no product can have."""
    if thickness < MIN_THICKNESS or thickness > MAX_THICKNESS:
        raise OutsideLimits()


def check_price(price):
    """Refuse a price that no product can have."""
    if price < MIN_PRICE or price > MAX_PRICE:
        raise OutsideLimits()


def check_hide(hide):
    """Refuse a hide that is too thick."""
    if hide > MAX_HIDE:
        raise OutsideLimits()


def check_value(value):
    """Refuse a value that is never asked for."""
    if value > MAX_VALUE:
        raise OutsideLimits()


def check_plan(layers, thicknesses):
    """Refuse layers that are no plan of products with these thicknesses."""
    if len(layers) > MAX_LAYERS:
        raise OutsideLimits()
    for position, layer in enumerate(layers):
        if layer not in thicknesses:
            raise OutsideLimits()
        if position > 0 and layer > layers[position - 1]:
            raise OutsideLimits()
