"""The entrance of the program: the calls of a request, and the answer to each of them."""

from hidelayers.errors import CallNotBuilt, NoSplitter, Refusal
from hidelayers.state import Splitter

CREATE = 0


def answer_add_product(splitter, numbers):
    """Answer call 1: thickness, price."""
    return [splitter.add_product(numbers[0], numbers[1])]


def answer_remove_product(splitter, numbers):
    """Answer call 2: thickness."""
    return [splitter.remove_product(numbers[0])]


def answer_set_price(splitter, numbers):
    """Answer call 3: thickness, price."""
    return [splitter.set_price(numbers[0], numbers[1])]


def answer_get_products(splitter, numbers):
    """Answer call 4: no numbers."""
    products = splitter.get_products()
    answer = [len(products)]
    for thickness, price in products:
        answer.append(thickness)
        answer.append(price)
    return answer


def answer_set_machine(splitter, numbers):
    """Answer call 5: cut_loss, max_cuts."""
    return [0] + list(splitter.set_machine(numbers[0], numbers[1]))


def answer_plan_value(splitter, numbers):
    """Answer call 6: the plan."""
    return [splitter.plan_value(numbers)]


def answer_fits(splitter, numbers):
    """Answer call 7: hide, the plan."""
    return [1 if splitter.fits(numbers[0], numbers[1:]) else 0]


def answer_cut_count(splitter, numbers):
    """Answer call 8: hide, the plan."""
    return [splitter.cut_count(numbers[0], numbers[1:])]


def answer_best_value(splitter, numbers):
    """Answer call 9: hide."""
    return [splitter.best_value(numbers[0])]


ANSWERED_BY = {
    1: answer_add_product,
    2: answer_remove_product,
    3: answer_set_price,
    4: answer_get_products,
    5: answer_set_machine,
    6: answer_plan_value,
    7: answer_fits,
    8: answer_cut_count,
    9: answer_best_value,
}


def answer_call(splitter, number, numbers):
    """Answer a call other than create; without a splitter each of them is refused, whatever it is."""
    if splitter is None:
        raise NoSplitter()
    if number not in ANSWERED_BY:
        raise CallNotBuilt()
    return ANSWERED_BY[number](splitter, numbers)


def split_calls(calls):
    """List the calls of a request, each as its number and the whole numbers that it has."""
    pairs = []
    position = 0
    while position < len(calls):
        first = position + 2
        behind = first + calls[position + 1]
        pairs.append((calls[position], calls[first:behind]))
        # One number more is passed over: how many lists the call has, which is always 0.
        position = behind + 1
    return pairs


def answers(calls):
    """Carry out the calls one after another; for each, answer how many numbers there are, then these."""
    splitter = None
    answered = []
    for number, numbers in split_calls(calls):
        try:
            if number == CREATE:
                splitter = Splitter(numbers[0], numbers[1])
                answer = [0]
            else:
                answer = answer_call(splitter, number, numbers)
        except Refusal as error:
            answer = [error.code]
        answered.append(len(answer))
        answered.extend(answer)
    return answered
