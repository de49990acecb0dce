"""The cheapest plan with errors: mode 0, goal 0, correct for a percentage of the weight."""

from pairsend.canonical import canonical_lists, different
from pairsend.plans import Plan


def correct_weight(state, x_code, y_code):
    """Return the total weight of the pairs with correct reports.

    Of the pairs with the same two messages, the heaviest one alone is decoded.
    """
    heaviest = {}
    for x, y in state.possible_pairs():
        cell = (x_code[x], y_code[y])
        heaviest[cell] = max(heaviest.get(cell, 0), state.weight_of(x, y))
    return sum(heaviest.values())


def cheapest_plan_with_errors(state, percent):
    """Return the cheapest plan with errors for the percentage.

    As each price is at least 1, codes that are good enough and leave messages of the
    cheapest sizes unused can't be: they would have cheaper sizes. So codes are compared by
    their own sizes.
    """
    wanted = percent * state.total_weight()
    found = []
    for x_code in canonical_lists(state.x_count):
        for y_code in canonical_lists(state.y_count):
            weight = correct_weight(state, x_code, y_code)
            if 100 * weight >= wanted:
                x_size = different(x_code)
                y_size = different(y_code)
                found.append((state.cost(x_size, y_size), x_size, y_size, 0 - weight, x_code, y_code))
    chosen = min(found)
    return Plan(0, 0, [chosen[4]], chosen[5])
