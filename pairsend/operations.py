"""The operations on an instance. Each returns its answer as a list of whole numbers.

A refusal is a list that holds its code alone.
"""

from pairsend.cheapest import cheapest_plan
from pairsend.lossy import cheapest_plan_with_errors
from pairsend.reports import decoded_pair, failing_pairs, is_correct, report_cost
from pairsend.states import State

NO_SUCH_SYMBOL = -2
NO_PLAN = -6
NO_HISTORY = -6
OUT_OF_RANGE = -22
NOT_POSSIBLE = -33


def create(instance, x_count, y_count):
    """Operation 0."""
    if x_count < 1 or x_count > 4 or y_count < 1 or y_count > 4:
        return [OUT_OF_RANGE]
    instance.begin(State(x_count, y_count))
    return [0]


def set_weight(instance, x, y, weight):
    """Operation 1."""
    state = instance.state
    if not state.has_symbols(x, y):
        return [NO_SUCH_SYMBOL]
    if weight > 99:
        return [OUT_OF_RANGE]
    fresh = state.twin()
    fresh.put_weight(x, y, weight)
    instance.change(fresh)
    return [state.weight_of(x, y)]


def set_value(instance, x, y, value):
    """Operation 2."""
    state = instance.state
    if not state.has_symbols(x, y):
        return [NO_SUCH_SYMBOL]
    if value > 9:
        return [OUT_OF_RANGE]
    fresh = state.twin()
    fresh.put_value(x, y, value)
    instance.change(fresh)
    return [state.value_of(x, y)]


def set_prices(instance, x_price, y_price):
    """Operation 3."""
    if x_price < 1 or x_price > 99 or y_price < 1 or y_price > 99:
        return [OUT_OF_RANGE]
    fresh = instance.state.twin()
    fresh.x_price = x_price
    fresh.y_price = y_price
    instance.change(fresh)
    return [0]


def size_answer(state, plan):
    """Return the cost of the plan's sizes, and the sizes."""
    return [report_cost(state, plan), plan.x_size(), plan.y_size()]


def take_plan(instance, plan):
    """Make this the plan of the instance, and return the cost of a report."""
    fresh = instance.state.twin()
    fresh.plan = plan
    instance.change(fresh)
    return [report_cost(fresh, plan)]


def cheapest_sizes(instance, mode, goal):
    """Operation 4."""
    if mode > 3 or goal > 1:
        return [OUT_OF_RANGE]
    return size_answer(instance.state, cheapest_plan(instance.state, mode, goal))


def choose_plan(instance, mode, goal):
    """Operation 5."""
    if mode > 3 or goal > 1:
        return [OUT_OF_RANGE]
    return take_plan(instance, cheapest_plan(instance.state, mode, goal))


def cheapest_sizes_with_errors(instance, percent):
    """Operation 6."""
    if percent > 100:
        return [OUT_OF_RANGE]
    return size_answer(instance.state, cheapest_plan_with_errors(instance.state, percent))


def choose_plan_with_errors(instance, percent):
    """Operation 7."""
    if percent > 100:
        return [OUT_OF_RANGE]
    return take_plan(instance, cheapest_plan_with_errors(instance.state, percent))


def get_plan(instance):
    """Operation 8."""
    plan = instance.state.plan
    if plan is None:
        return [NO_PLAN]
    messages = plan.x_messages()
    return [plan.mode, plan.goal, len(messages)] + messages + plan.y_code


def is_reliable(instance):
    """Operation 9."""
    plan = instance.state.plan
    if plan is None:
        return [NO_PLAN]
    return [1 if failing_pairs(instance.state, plan) == [] else 0]


def list_failures(instance):
    """Operation 10."""
    plan = instance.state.plan
    if plan is None:
        return [NO_PLAN]
    pairs = failing_pairs(instance.state, plan)
    numbers = [len(pairs)]
    for x, y in pairs:
        numbers.append(x)
        numbers.append(y)
    return numbers


def evaluate_plan(instance):
    """Operation 11."""
    state = instance.state
    if state.plan is None:
        return [NO_PLAN]
    total = state.total_weight()
    failing = sum([state.weight_of(x, y) for x, y in failing_pairs(state, state.plan)])
    return [total - failing, total, report_cost(state, state.plan)]


def report_refusal(state, x, y):
    """Return the code with which a report of the pair is refused, or None."""
    if not state.has_symbols(x, y):
        return NO_SUCH_SYMBOL
    if state.plan is None:
        return NO_PLAN
    if state.weight_of(x, y) == 0:
        return NOT_POSSIBLE
    return None


def report_answer(state, x, y):
    """Return what a report of the pair answers when it isn't refused, the cost last."""
    plan = state.plan
    decoded = decoded_pair(state, plan, x, y)
    correct = 1 if is_correct(state, plan, x, y) else 0
    messages = [plan.x_message(x, y), plan.y_message(y)]
    return [correct] + messages + [decoded[0], decoded[1], report_cost(state, plan)]


def send_report(instance, x, y):
    """Operation 12."""
    state = instance.state
    refusal = report_refusal(state, x, y)
    if refusal is not None:
        return [refusal]
    answer = report_answer(state, x, y)
    fresh = state.twin()
    fresh.record(answer[0], answer[5])
    instance.change(fresh)
    return answer


def preview_report(instance, x, y):
    """Operation 13."""
    refusal = report_refusal(instance.state, x, y)
    if refusal is not None:
        return [refusal]
    return report_answer(instance.state, x, y)


def ledger(instance):
    """Operation 14."""
    state = instance.state
    return [state.sent_count, state.correct_count, state.total_cost]


def compare_modes(instance, goal):
    """Operation 15."""
    if goal > 1:
        return [OUT_OF_RANGE]
    state = instance.state
    return [4] + [report_cost(state, cheapest_plan(state, mode, goal)) for mode in range(4)]


def drop_plan(instance):
    """Operation 16."""
    plan = instance.state.plan
    if plan is None:
        return [NO_PLAN]
    fresh = instance.state.twin()
    fresh.plan = None
    instance.change(fresh)
    return [plan.mode]


def undo(instance):
    """Operation 17."""
    if len(instance.history) == 0:
        return [NO_HISTORY]
    instance.step_back()
    return [len(instance.history)]


def summary(instance):
    """Operation 18."""
    state = instance.state
    plan_state = 0 if state.plan is None else state.plan.mode + 1
    counts = [state.x_count, state.y_count, len(state.possible_pairs())]
    return counts + [state.x_price, state.y_price, plan_state, len(instance.history)]
