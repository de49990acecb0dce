"""The desk: takes a flat list of calls and gives back a flat list of answers."""

from pairsend.operations import (
    cheapest_sizes,
    cheapest_sizes_with_errors,
    choose_plan,
    choose_plan_with_errors,
    compare_modes,
    create,
    drop_plan,
    evaluate_plan,
    get_plan,
    is_reliable,
    ledger,
    list_failures,
    preview_report,
    send_report,
    set_prices,
    set_value,
    set_weight,
    summary,
    undo,
)
from pairsend.states import Instance

NO_INSTANCE = -11

# How many arguments each operation has.
ARGUMENT_COUNTS = (2, 3, 3, 2, 2, 2, 1, 1, 0, 0, 0, 0, 2, 2, 0, 1, 0, 0, 0)


def change_pairs(instance, number, given):
    """Return the answer of an operation from 1 to 3."""
    if number == 1:
        return set_weight(instance, given[0], given[1], given[2])
    if number == 2:
        return set_value(instance, given[0], given[1], given[2])
    return set_prices(instance, given[0], given[1])


def use_plans(instance, number, given):
    """Return the answer of an operation from 4 to 9."""
    if number == 4:
        return cheapest_sizes(instance, given[0], given[1])
    if number == 5:
        return choose_plan(instance, given[0], given[1])
    if number == 6:
        return cheapest_sizes_with_errors(instance, given[0])
    if number == 7:
        return choose_plan_with_errors(instance, given[0])
    if number == 8:
        return get_plan(instance)
    return is_reliable(instance)


def operate_plan(instance, number, given):
    """Return the answer of an operation from 10 to 14."""
    if number == 10:
        return list_failures(instance)
    if number == 11:
        return evaluate_plan(instance)
    if number == 12:
        return send_report(instance, given[0], given[1])
    if number == 13:
        return preview_report(instance, given[0], given[1])
    return ledger(instance)


def oversee(instance, number, given):
    """Return the answer of an operation from 15 to 18."""
    if number == 15:
        return compare_modes(instance, given[0])
    if number == 16:
        return drop_plan(instance)
    if number == 17:
        return undo(instance)
    return summary(instance)


def perform(instance, number, given):
    """Return the answer of one operation."""
    if number == 0:
        return create(instance, given[0], given[1])
    if instance.state is None:
        return [NO_INSTANCE]
    if number <= 3:
        return change_pairs(instance, number, given)
    if number <= 9:
        return use_plans(instance, number, given)
    if number <= 14:
        return operate_plan(instance, number, given)
    return oversee(instance, number, given)


def answers(calls):
    """Return, for each call, how many numbers are answered, and these numbers."""
    instance = Instance()
    answered = []
    place = 0
    while place < len(calls):
        number = calls[place]
        end = place + 1 + ARGUMENT_COUNTS[number]
        numbers = perform(instance, number, calls[place + 1:end])
        answered.append(len(numbers))
        answered.extend(numbers)
        place = end
    return answered
