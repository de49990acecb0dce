"""The desk: takes a flat list of calls and gives back a flat list of answers."""

from pairsend.operations import (
    cheapest_sizes,
    cheapest_sizes_with_errors,
    choose_plan,
    choose_plan_with_errors,
    create,
    get_plan,
    is_reliable,
    set_prices,
    set_value,
    set_weight,
)
from pairsend.states import Instance

NO_INSTANCE = -11

# How many arguments each operation has. Those that aren't built yet are counted too:
# they also answer -11 as long as there is no instance.
ARGUMENT_COUNTS = (2, 3, 3, 2, 2, 2, 1, 1, 0, 0, 0, 0, 2, 2, 0, 1, 0, 0, 0)


class NotBuilt(Exception):
    """The operation isn't part of the program yet."""


def change_pairs(instance, number, given):
    """Return the answer of an operation from 1 to 3."""
    if number == 1:
        return set_weight(instance, given[0], given[1], given[2])
    if number == 2:
        return set_value(instance, given[0], given[1], given[2])
    return set_prices(instance, given[0], given[1])


def use_plans(instance, number, given):
    """Return the answer of an operation from 4 to 9."""
    if number == 4:
        return cheapest_sizes(instance, given[0], given[1])
    if number == 5:
        return choose_plan(instance, given[0], given[1])
    if number == 6:
        return cheapest_sizes_with_errors(instance, given[0])
    if number == 7:
        return choose_plan_with_errors(instance, given[0])
    if number == 8:
        return get_plan(instance)
    return is_reliable(instance)


def perform(instance, number, given):
    """Return the answer of one operation."""
    if number == 0:
        return create(instance, given[0], given[1])
    if instance.state is None:
        return [NO_INSTANCE]
    if number <= 3:
        return change_pairs(instance, number, given)
    if number <= 9:
        return use_plans(instance, number, given)
    raise NotBuilt(f"operation {number}")


def answers(calls):
    """Return, for each call, how many numbers are answered, and these numbers."""
    instance = Instance()
    answered = []
    place = 0
    while place < len(calls):
        number = calls[place]
        end = place + 1 + ARGUMENT_COUNTS[number]
        numbers = perform(instance, number, calls[place + 1:end])
        answered.append(len(numbers))
        answered.extend(numbers)
        place = end
    return answered
