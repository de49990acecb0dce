"""Worlds for the tests: small ones, the same each time, and the calls that build them."""

import random

from pairsend import operations
from pairsend.states import Instance

# A request has at most 30 calls: create, set_prices and four calls of the test stand beside these.
SETTINGS = 24


def make_world(seed, x_count, y_count, spread=9, kinds=3):
    """Return a world with some possible pairs, drawn from a fixed seed."""
    draw = random.Random(f"{seed}-{x_count}-{y_count}")
    pairs = [(x, y) for x in range(x_count) for y in range(y_count)]
    share = draw.choice([3, 5, 8])
    weights = {p: draw.randint(1, spread) if draw.randint(1, 10) <= share else 0 for p in pairs}
    values = {p: draw.randrange(kinds) for p in pairs}
    for pair in draw.sample(pairs, len(pairs)):
        settings = [p for p in pairs if weights[p]] + [p for p in pairs if values[p]]
        if len(settings) > SETTINGS:
            values[pair] = 0
    return {
        "x_count": x_count,
        "y_count": y_count,
        "weights": weights,
        "values": values,
        "x_price": draw.choice([1, 1, 2, 3, 7]),
        "y_price": draw.choice([1, 1, 2, 3, 7]),
    }


def world_calls(world):
    """Return the calls that build the world (values of 0 are there from the start)."""
    calls = [("create", world["x_count"], world["y_count"])]
    for pair, weight in world["weights"].items():
        if weight:
            calls.append(("set_weight",) + pair + (weight,))
    for pair, value in world["values"].items():
        if value:
            calls.append(("set_value",) + pair + (value,))
    calls.append(("set_prices", world["x_price"], world["y_price"]))
    return calls


def made_instance(world):
    """Return an instance of the world; operations on it aren't limited to 30."""
    instance = Instance()
    operations.create(instance, world["x_count"], world["y_count"])
    for pair, weight in world["weights"].items():
        operations.set_weight(instance, pair[0], pair[1], weight)
    for pair, value in world["values"].items():
        operations.set_value(instance, pair[0], pair[1], value)
    operations.set_prices(instance, world["x_price"], world["y_price"])
    return instance


def picture(thing):
    """Return all that an object holds, down to the last number."""
    if hasattr(thing, "__dict__"):
        return [type(thing).__name__, [(name, picture(part)) for name, part in sorted(vars(thing).items())]]
    if isinstance(thing, (list, tuple)):
        return [picture(part) for part in thing]
    return thing
