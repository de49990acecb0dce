"""What the document says of plans, word for word and by trying everything.

It knows nothing of the package. A world is a dict: x_count, y_count, weights and values
(dicts from pair to number), x_price, y_price. A plan is (mode, goal, x_codes, y_code).
"""

import itertools


def canonical(length, limit):
    """All canonical lists of the length with numbers less than limit, the smallest first."""
    found = []
    for numbers in itertools.product(range(limit), repeat=length):
        if all(numbers[k] <= len(set(numbers[:k])) for k in range(length)):
            found.append(list(numbers))
    return found


def possible(weights):
    return sorted(pair for pair in weights if weights[pair] > 0)


def messages(plan, pair):
    mode, goal, x_codes, y_code = plan
    x, y = pair
    if mode == 0:
        return x_codes[0][x], y_code[y]
    return x_codes[y_code[y]][x], y_code[y]


def decoded(plan, weights, pair):
    mode = plan[0]
    own = messages(plan, pair)
    if mode == 0:
        same = [p for p in possible(weights) if messages(plan, p) == own]
        return sorted(same, key=lambda p: (-weights[p], p))[0]
    if mode == 2:
        return [p for p in possible(weights) if messages(plan, p) == own][0]
    return [p for p in possible(weights) if p[1] == pair[1] and messages(plan, p)[0] == own[0]][0]


def correct(plan, weights, values, pair):
    got = decoded(plan, weights, pair)
    if plan[1] == 1:
        return values[got] == values[pair]
    if plan[0] == 0:
        return got == pair
    return got[0] == pair[0]


def reliable(plan, weights, values):
    return all(correct(plan, weights, values, pair) for pair in possible(weights))


def always_reliable(plan, world):
    """Reliable for several weights of the possible pairs, each pair being the heaviest once."""
    pairs = possible(world["weights"])
    trials = [world["weights"]]
    for heavy in pairs:
        trials.append({p: (0 if p not in pairs else 2 if p == heavy else 1) for p in world["weights"]})
    return all(reliable(plan, weights, world["values"]) for weights in trials)


def plans(world, mode, goal):
    """All plans with canonical lists, in the order in which the cheapest plan is looked for."""
    x_count, y_count = world["x_count"], world["y_count"]
    x_codes = canonical(x_count, x_count)
    y_codes = canonical(y_count, y_count)
    if mode == 0:
        return [(0, goal, [a], b) for a in x_codes for b in y_codes]
    if mode == 2:
        return [(2, goal, [a] * y_count, b) for b in y_codes for a in x_codes]
    if mode == 3:
        y_codes = [[0] * y_count]
    return [(mode, goal, list(a), b) for b in y_codes
            for a in itertools.product(x_codes, repeat=y_count)]


def bounds(plan):
    """The smallest sizes that all messages are less than."""
    x_bound = max(max(code) for code in plan[2]) + 1
    return x_bound, (0 if plan[0] == 3 else max(plan[3]) + 1)


def plan_sizes(plan):
    """The sizes of a plan."""
    mode, goal, x_codes, y_code = plan
    if mode == 0:
        return len(set(x_codes[0])), len(set(y_code))
    return max(len(set(x_codes[number])) for number in set(y_code)), (0 if mode == 3 else len(set(y_code)))


def cost(world, sizes):
    return world["x_price"] * sizes[0] + world["y_price"] * sizes[1]


def within(plan, sizes):
    own = bounds(plan)
    return own[0] <= sizes[0] and own[1] <= sizes[1]


def cheapest(world, mode, goal):
    """The cheapest sizes and the cheapest plan."""
    good = [plan for plan in plans(world, mode, goal) if always_reliable(plan, world)]
    offers = []
    if mode == 3:
        sizes = [(a, 0) for a in range(1, world["x_count"] + 1) if any(within(p, (a, 0)) for p in good)][0]
        offers.append((cost(world, sizes), 0, sizes))
    elif mode == 0:
        for a in range(1, world["x_count"] + 1):
            enough = [b for b in range(1, world["y_count"] + 1) if any(within(p, (a, b)) for p in good)]
            if enough:
                offers.append((cost(world, (a, enough[0])), a, (a, enough[0])))
    else:
        for b in range(1, world["y_count"] + 1):
            enough = [a for a in range(1, world["x_count"] + 1) if any(within(p, (a, b)) for p in good)]
            if enough:
                offers.append((cost(world, (enough[0], b)), b, (enough[0], b)))
    sizes = min(offers)[2]
    return sizes, [plan for plan in good if within(plan, sizes)][0]


def told_apart(code, world, goal, symbols):
    """Whether, for each of these Y symbols by itself, the X code tells all that has to be told."""
    for y in symbols:
        column = [p for p in possible(world["weights"]) if p[1] == y]
        for p, q in itertools.combinations(column, 2):
            same = world["values"][p] == world["values"][q] if goal == 1 else p[0] == q[0]
            if code[p[0]] == code[q[0]] and not same:
                return False
    return True


def cheapest_by_class(world, mode, goal):
    """What cheapest finds for modes 1 and 3, class by class: quick enough for all counts."""
    x_count, y_count = world["x_count"], world["y_count"]
    class_lists = canonical(y_count, y_count) if mode == 1 else [[0] * y_count]
    good = {}
    for classes in class_lists:
        members = [[y for y in range(y_count) if classes[y] == number] for number in range(y_count)]
        good[tuple(classes)] = [[code for code in canonical(x_count, x_count) if told_apart(code, world, goal, ys)]
                                for ys in members]
    offers = []
    for b in range(1, y_count + 1):
        enough = [max(min(max(code) + 1 for code in codes) for codes in good[classes])
                  for classes in good if max(classes) < b]
        sizes = (min(enough), 0 if mode == 3 else b)
        offers.append((cost(world, sizes), b, sizes))
    first = min(offers)
    x_size = first[2][0]
    for classes in sorted(good):
        if max(classes) < first[1] and all(min(max(code) for code in codes) < x_size for codes in good[classes]):
            x_codes = [[code for code in codes if max(code) < x_size][0] for codes in good[classes]]
            return first[2], (mode, goal, x_codes, list(classes))


def cheapest_quickly(world, mode, goal):
    """The cheapest sizes and the cheapest plan, also where there are too many plans to try."""
    return cheapest_by_class(world, mode, goal) if mode in (1, 3) else cheapest(world, mode, goal)


def correct_weight(plan, world):
    weights = world["weights"]
    return sum(weights[p] for p in possible(weights) if correct(plan, weights, world["values"], p))


def cheapest_with_errors(world, percent):
    """The cheapest sizes and the cheapest plan with errors."""
    every = [(plan, correct_weight(plan, world)) for plan in plans(world, 0, 0)]
    total = sum(world["weights"].values())
    offers = []
    for a in range(1, world["x_count"] + 1):
        for b in range(1, world["y_count"] + 1):
            best = max(weight for plan, weight in every if within(plan, (a, b)))
            if 100 * best >= percent * total:
                offers.append((cost(world, (a, b)), a, b, best))
    first = min(offers)
    sizes = (first[1], first[2])
    chosen = [plan for plan, weight in every if within(plan, sizes) and weight == first[3]][0]
    return sizes, chosen


def shown(plan):
    """The plan as get_plan answers it."""
    x_messages = [message for code in plan[2] for message in code]
    return [plan[0], plan[1], len(x_messages)] + x_messages + plan[3]
