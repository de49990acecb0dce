"""Reports of pairs under a plan: what the receiver sees, needs and decodes."""


def view(mode, x_message, y_message, y):
    """Return all that the receiver knows of a pair when its report has come."""
    if mode == 1 or mode == 3:
        return (x_message, y)
    return (x_message, y_message)


def need(state, mode, goal, x, y):
    """Return what the receiver has to get right about the pair."""
    if goal == 1:
        return state.value_of(x, y)
    if mode == 0:
        return (x, y)
    return x


def plan_view(plan, x, y):
    """Return what the receiver knows of the pair under the plan."""
    return view(plan.mode, plan.x_message(x, y), plan.y_message(y), y)


def decoded_pair(state, plan, x, y):
    """Return the pair that the receiver takes the possible pair for."""
    seen = plan_view(plan, x, y)
    alike = [pair for pair in state.possible_pairs() if plan_view(plan, pair[0], pair[1]) == seen]
    chosen = alike[0]
    if plan.mode == 0:
        for pair in alike:
            if state.weight_of(pair[0], pair[1]) > state.weight_of(chosen[0], chosen[1]):
                chosen = pair
    return chosen


def is_correct(state, plan, x, y):
    """Return whether the report of the possible pair is correct."""
    decoded = decoded_pair(state, plan, x, y)
    wanted = need(state, plan.mode, plan.goal, x, y)
    return need(state, plan.mode, plan.goal, decoded[0], decoded[1]) == wanted


def failing_pairs(state, plan):
    """Return the possible pairs whose reports aren't correct, in their order."""
    return [pair for pair in state.possible_pairs() if not is_correct(state, plan, pair[0], pair[1])]


def report_cost(state, plan):
    """Return the cost of a report with the plan at the present prices."""
    return state.cost(plan.x_size(), plan.y_size())
