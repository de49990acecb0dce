"""The cheapest plan that is reliable, for a mode and a goal.

Each price is at least 1. So a plan that leaves one of the cheapest sizes unused would have
cheaper sizes of its own: the cheapest sizes are exactly the sizes of the cheapest plan, and
it is enough to compare plans by their own sizes.
"""

from pairsend.canonical import canonical_lists, different
from pairsend.plans import Plan
from pairsend.reports import need, view


def agree(views, needs):
    """Return whether the same view always goes with the same need.

    This is reliability whatever the weights are: of two pairs with the same view and
    different needs, at most one can be reported correctly, whichever is decoded.
    """
    known = {}
    for seen, wanted in zip(views, needs):
        if known.setdefault(seen, wanted) != wanted:
            return False
    return True


def separate_plan(state, goal):
    """Return the cheapest plan of mode 0."""
    pairs = state.possible_pairs()
    needs = [need(state, 0, goal, x, y) for x, y in pairs]
    found = []
    for x_code in canonical_lists(state.x_count):
        for y_code in canonical_lists(state.y_count):
            views = [view(0, x_code[x], y_code[y], y) for x, y in pairs]
            if agree(views, needs):
                x_size = different(x_code)
                cost = state.cost(x_size, different(y_code))
                found.append((cost, x_size, x_code, y_code))
    chosen = min(found)
    return Plan(0, goal, [chosen[2]], chosen[3])


def class_lists(state, mode):
    """Return the class lists that the mode may use."""
    if mode == 3:
        return [[0] * state.y_count]
    return canonical_lists(state.y_count)


def served_pairs(state, mode, classes, number):
    """Return the possible pairs for which the X code of the class has to work."""
    pairs = state.possible_pairs()
    if mode == 2:
        # The code is the same for all classes, so each class's code serves every pair.
        return pairs
    return [pair for pair in pairs if classes[pair[1]] == number]


def working_codes(state, mode, goal, classes, number):
    """Return the X codes with which the class can be reported reliably."""
    pairs = served_pairs(state, mode, classes, number)
    needs = [need(state, mode, goal, x, y) for x, y in pairs]
    codes = []
    for code in canonical_lists(state.x_count):
        views = [view(mode, code[x], classes[y], y) for x, y in pairs]
        if agree(views, needs):
            codes.append(code)
    return codes


def codes_by_class(state, mode, goal, classes):
    """Return the working X codes of each class, whether it occurs or not."""
    return [working_codes(state, mode, goal, classes, number) for number in range(state.y_count)]


def fewest_messages(codes):
    """Return the number of messages of the code that has the fewest."""
    return min([different(code) for code in codes])


def smallest_code(codes, x_size):
    """Return the smallest of the codes that have at most this many messages."""
    return min([code for code in codes if different(code) <= x_size])


def classed_plan(state, mode, goal):
    """Return the cheapest plan of mode 1, 2 or 3."""
    found = []
    for classes in class_lists(state, mode):
        choices = codes_by_class(state, mode, goal, classes)
        # In mode 2 the value can depend on a Y symbol that its class doesn't tell.
        if all(choices):
            x_size = max([fewest_messages(codes) for codes in choices])
            y_size = 0 if mode == 3 else different(classes)
            found.append((state.cost(x_size, y_size), y_size, classes, x_size))
    chosen = min(found)
    choices = codes_by_class(state, mode, goal, chosen[2])
    # A class may use as many messages as the class that needs the most.
    x_codes = [smallest_code(codes, chosen[3]) for codes in choices]
    return Plan(mode, goal, x_codes, chosen[2])


def cheapest_plan(state, mode, goal):
    """Return the cheapest plan for the mode and the goal."""
    if mode == 0:
        return separate_plan(state, goal)
    return classed_plan(state, mode, goal)
