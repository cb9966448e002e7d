"""The entrance of the program: the calls of a request, and the answer to each of them."""

from hidelayers.errors import NoSplitter, Refusal
from hidelayers.state import Splitter

CREATE = 0


def answer_add_product(splitter, numbers):
    """Answer call 1: thickness, price."""
    return [splitter.add_product(numbers[0], numbers[1])]


def answer_remove_product(splitter, numbers):
    """Answer call 2: thickness."""
    return [splitter.remove_product(numbers[0])]


def answer_set_price(splitter, numbers):
    """Answer call 3: thickness, price."""
    return [splitter.set_price(numbers[0], numbers[1])]


def answer_get_products(splitter, numbers):
    """Answer call 4: no numbers."""
    products = splitter.get_products()
    answer = [len(products)]
    for thickness, price in products:
        answer.append(thickness)
        answer.append(price)
    return answer


def answer_set_machine(splitter, numbers):
    """Answer call 5: cut_loss, max_cuts."""
    return [0] + list(splitter.set_machine(numbers[0], numbers[1]))


def answer_plan_value(splitter, numbers):
    """Answer call 6: the plan."""
    return [splitter.plan_value(numbers)]


def answer_fits(splitter, numbers):
    """Answer call 7: hide, the plan."""
    return [1 if splitter.fits(numbers[0], numbers[1:]) else 0]


def answer_cut_count(splitter, numbers):
    """Answer call 8: hide, the plan."""
    return [splitter.cut_count(numbers[0], numbers[1:])]


def answer_best_value(splitter, numbers):
    """Answer call 9: hide."""
    return [splitter.best_value(numbers[0])]


def answer_best_plan(splitter, numbers):
    """Answer call 10: hide."""
    plan = splitter.best_plan(numbers[0])
    return [len(plan)] + plan


def answer_waste(splitter, numbers):
    """Answer call 11: hide."""
    return [splitter.waste(numbers[0])]


def answer_plan_count(splitter, numbers):
    """Answer call 12: hide."""
    return [splitter.plan_count(numbers[0])]


def answer_best_plan_count(splitter, numbers):
    """Answer call 13: hide."""
    return [splitter.best_plan_count(numbers[0])]


def answer_value_table(splitter, numbers):
    """Answer call 14: no numbers."""
    values = splitter.value_table()
    return [len(values)] + values


def answer_least_thickness(splitter, numbers):
    """Answer call 15: value."""
    return [splitter.least_thickness(numbers[0])]


def answer_value_with_machine(splitter, numbers):
    """Answer call 16: cut_loss, max_cuts, hide."""
    return [splitter.value_with_machine(numbers[0], numbers[1], numbers[2])]


def answer_value_with_product(splitter, numbers):
    """Answer call 17: thickness, price, hide."""
    return [splitter.value_with_product(numbers[0], numbers[1], numbers[2])]


def answer_layers_of_product(splitter, numbers):
    """Answer call 18: hide, thickness."""
    return [splitter.layers_of_product(numbers[0], numbers[1])]


def answer_value_of_two(splitter, numbers):
    """Answer call 19: first, second."""
    return [splitter.value_of_two(numbers[0], numbers[1])]


ANSWERED_BY = {
    1: answer_add_product,
    2: answer_remove_product,
    3: answer_set_price,
    4: answer_get_products,
    5: answer_set_machine,
    6: answer_plan_value,
    7: answer_fits,
    8: answer_cut_count,
    9: answer_best_value,
    10: answer_best_plan,
    11: answer_waste,
    12: answer_plan_count,
    13: answer_best_plan_count,
    14: answer_value_table,
    15: answer_least_thickness,
    16: answer_value_with_machine,
    17: answer_value_with_product,
    18: answer_layers_of_product,
    19: answer_value_of_two,
}


def answer_call(splitter, number, numbers):
    """Answer a call other than create; without a splitter each of them is refused, whatever it is."""
    if splitter is None:
        raise NoSplitter()
    return ANSWERED_BY[number](splitter, numbers)


def split_calls(calls):
    """List the calls of a request, each as its number and the whole numbers that it has."""
    pairs = []
    position = 0
    while position < len(calls):
        first = position + 2
        behind = first + calls[position + 1]
        pairs.append((calls[position], calls[first:behind]))
        # One number more is passed over: how many lists the call has, which is always 0.
        position = behind + 1
    return pairs


def answers(calls):
    """Carry out the calls one after another; for each, answer how many numbers there are, then these."""
    splitter = None
    answered = []
    for number, numbers in split_calls(calls):
        try:
            if number == CREATE:
                splitter = Splitter(numbers[0], numbers[1])
                answer = [0]
            else:
                answer = answer_call(splitter, number, numbers)
        except Refusal as error:
            answer = [error.code]
        answered.append(len(answer))
        answered.extend(answer)
    return answered
