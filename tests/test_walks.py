"""Long mixed requests, the same each time, answered as the model of the document answers them."""

import random
import unittest

from model import Model
from talk import TOP, talk

SHAPES = [(a, b) for a in range(1, 5) for b in range(1, 5)]
# How often each call comes, beside the weights that every walk begins with.
SHARES = {
    "create": 1, "set_weight": 20, "set_value": 8, "set_prices": 5, "cheapest_sizes": 2, "choose_plan": 16,
    "cheapest_sizes_with_errors": 2, "choose_plan_with_errors": 8, "get_plan": 5, "is_reliable": 6,
    "list_failures": 9, "evaluate_plan": 9, "send_report": 24, "preview_report": 12, "ledger": 10,
    "compare_modes": 3, "drop_plan": 4, "undo": 16, "summary": 8,
}


def often(draw, most):
    """A number from 0 to most, now and then the next one or a huge one."""
    return draw.choice([draw.randint(0, most)] * 12 + [most + 1, TOP])


def drawn_call(draw, name, x_count, y_count):
    x, y = often(draw, x_count - 1), often(draw, y_count - 1)
    arguments = {
        "create": (draw.choice([x_count, 0, 5]), draw.choice([y_count, 0, 5])),
        "set_weight": (x, y, draw.choice([0, 1, 2, 5, 9, often(draw, 99)])),
        "set_value": (x, y, draw.choice([0, 1, 2, often(draw, 9)])),
        "set_prices": (often(draw, 9), often(draw, 99)),
        "cheapest_sizes": (often(draw, 3), often(draw, 1)),
        "choose_plan": (often(draw, 3), often(draw, 1)),
        "cheapest_sizes_with_errors": (often(draw, 100),),
        "choose_plan_with_errors": (often(draw, 100),),
        "send_report": (x, y),
        "preview_report": (x, y),
        "compare_modes": (often(draw, 1),),
    }
    return (name,) + arguments.get(name, ())


def drawn_walk(seed, x_count, y_count):
    """Return a request of thirty calls."""
    draw = random.Random(f"walk-{seed}-{x_count}-{y_count}")
    calls = [("create", x_count, y_count)]
    for step in range(draw.randint(0, 9)):
        calls.append(("set_weight", draw.randrange(x_count), draw.randrange(y_count), draw.choice([1, 2, 2, 3, 9])))
    if draw.randrange(2):
        calls.append(("choose_plan", draw.randrange(4), draw.randrange(2)))
    names = draw.choices(list(SHARES), list(SHARES.values()), k=30 - len(calls))
    return calls + [drawn_call(draw, name, x_count, y_count) for name in names]


class Walks(unittest.TestCase):
    def test_as_the_model_says(self):
        for x_count, y_count in SHAPES:
            for seed in range(40):
                calls = drawn_walk(seed, x_count, y_count)
                model = Model()
                got = talk(*calls)
                for place, call in enumerate(calls):
                    self.assertEqual(got[place], model.answer(*call), (calls[:place + 1]))


if __name__ == "__main__":
    unittest.main()
