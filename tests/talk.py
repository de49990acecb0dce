"""Calls by name: flattens calls for the desk and takes its answers apart again."""

from pairsend.desk import answers

NUMBERS = {
    "create": 0, "set_weight": 1, "set_value": 2, "set_prices": 3,
    "cheapest_sizes": 4, "choose_plan": 5,
    "cheapest_sizes_with_errors": 6, "choose_plan_with_errors": 7,
    "get_plan": 8, "is_reliable": 9,
    "list_failures": 10, "evaluate_plan": 11, "send_report": 12, "preview_report": 13, "ledger": 14,
    "compare_modes": 15, "drop_plan": 16, "undo": 17, "summary": 18,
}
TOP = 4294967295


def flat(calls):
    """Return the calls, each a tuple of a name (or number) and arguments, as one flat list."""
    numbers = []
    for call in calls:
        numbers.append(NUMBERS.get(call[0], call[0]))
        numbers.extend(call[1:])
    return numbers


def split(numbers):
    """Return one list for each answered call."""
    found = []
    place = 0
    while place < len(numbers):
        end = place + 1 + numbers[place]
        found.append(numbers[place + 1:end])
        place = end
    if place != len(numbers):
        raise ValueError("the last answer is cut off")
    return found


def talk(*calls):
    """Return the answer of each call as a list."""
    if len(calls) > 30:
        raise ValueError("more calls than a request may have")
    found = split(answers(flat(calls)))
    if len(found) != len(calls):
        raise ValueError("not one answer for each call")
    return found


def last(*calls):
    """Return the answer of the last call."""
    return talk(*calls)[-1]


def paired(x_count, y_count, weights, values=None, prices=None):
    """Return calls that make an instance with these weights and values ({(x, y): number})."""
    calls = [("create", x_count, y_count)]
    for pair, weight in weights.items():
        calls.append(("set_weight",) + pair + (weight,))
    for pair, value in (values or {}).items():
        calls.append(("set_value",) + pair + (value,))
    if prices:
        calls.append(("set_prices",) + prices)
    return calls


def watched(*calls):
    """Return, after these calls on an instance of 2 by 2 symbols, all that can be seen of it."""
    looks = [("get_plan",), ("list_failures",), ("evaluate_plan",), ("ledger",), ("summary",),
             ("compare_modes", 0), ("compare_modes", 1)]
    for x in range(2):
        for y in range(2):
            # These change the instance, but each answers what was there before.
            looks += [("set_weight", x, y, 0), ("set_value", x, y, 0)]
    return talk(*calls, *looks)[len(calls):]
