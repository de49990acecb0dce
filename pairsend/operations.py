"""The operations on an instance. Each returns its answer as a list of whole numbers.

A refusal is a list that holds its code alone.
"""

from pairsend.cheapest import cheapest_plan
from pairsend.lossy import cheapest_plan_with_errors
from pairsend.reports import all_correct, report_cost
from pairsend.states import State

NO_SUCH_SYMBOL = -2
NO_PLAN = -6
OUT_OF_RANGE = -22


def create(instance, x_count, y_count):
    """Operation 0."""
    if x_count < 1 or x_count > 4 or y_count < 1 or y_count > 4:
        return [OUT_OF_RANGE]
    instance.begin(State(x_count, y_count))
    return [0]


def set_weight(instance, x, y, weight):
    """Operation 1."""
    state = instance.state
    if not state.has_symbols(x, y):
        return [NO_SUCH_SYMBOL]
    if weight > 99:
        return [OUT_OF_RANGE]
    fresh = state.twin()
    fresh.put_weight(x, y, weight)
    instance.change(fresh)
    return [state.weight_of(x, y)]


def set_value(instance, x, y, value):
    """Operation 2."""
    state = instance.state
    if not state.has_symbols(x, y):
        return [NO_SUCH_SYMBOL]
    if value > 9:
        return [OUT_OF_RANGE]
    fresh = state.twin()
    fresh.put_value(x, y, value)
    instance.change(fresh)
    return [state.value_of(x, y)]


def set_prices(instance, x_price, y_price):
    """Operation 3."""
    if x_price < 1 or x_price > 99 or y_price < 1 or y_price > 99:
        return [OUT_OF_RANGE]
    fresh = instance.state.twin()
    fresh.x_price = x_price
    fresh.y_price = y_price
    instance.change(fresh)
    return [0]


def size_answer(state, plan):
    """Return the cost of the plan's sizes, and the sizes."""
    return [report_cost(state, plan), plan.x_size(), plan.y_size()]


def take_plan(instance, plan):
    """Make this the plan of the instance, and return the cost of a report."""
    fresh = instance.state.twin()
    fresh.plan = plan
    instance.change(fresh)
    return [report_cost(fresh, plan)]


def cheapest_sizes(instance, mode, goal):
    """Operation 4."""
    if mode > 3 or goal > 1:
        return [OUT_OF_RANGE]
    return size_answer(instance.state, cheapest_plan(instance.state, mode, goal))


def choose_plan(instance, mode, goal):
    """Operation 5."""
    if mode > 3 or goal > 1:
        return [OUT_OF_RANGE]
    return take_plan(instance, cheapest_plan(instance.state, mode, goal))


def cheapest_sizes_with_errors(instance, percent):
    """Operation 6."""
    if percent > 100:
        return [OUT_OF_RANGE]
    return size_answer(instance.state, cheapest_plan_with_errors(instance.state, percent))


def choose_plan_with_errors(instance, percent):
    """Operation 7."""
    if percent > 100:
        return [OUT_OF_RANGE]
    return take_plan(instance, cheapest_plan_with_errors(instance.state, percent))


def get_plan(instance):
    """Operation 8."""
    plan = instance.state.plan
    if plan is None:
        return [NO_PLAN]
    messages = plan.x_messages()
    return [plan.mode, plan.goal, len(messages)] + messages + plan.y_code


def is_reliable(instance):
    """Operation 9."""
    plan = instance.state.plan
    if plan is None:
        return [NO_PLAN]
    return [1 if all_correct(instance.state, plan) else 0]
