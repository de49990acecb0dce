"""The operations as the document tells them, plainly: states are dicts and are copied whole.

It knows nothing of the package; plans and reports are the oracle's.
"""

import copy

import oracle


def start(x_count, y_count):
    """Return the state after create."""
    pairs = [(x, y) for x in range(x_count) for y in range(y_count)]
    return {
        "x_count": x_count, "y_count": y_count,
        "weights": {pair: 0 for pair in pairs}, "values": {pair: 0 for pair in pairs},
        "x_price": 1, "y_price": 1, "plan": None, "ledger": [0, 0, 0],
    }


class Model:
    """An instance, or none; answer(name, *arguments) is the answer of one call."""

    def __init__(self):
        self.state = None
        self.history = []

    def answer(self, name, *given):
        if name != "create" and self.state is None:
            return [-11]
        return getattr(self, name)(*given)

    def change(self):
        """Remember the present state, which may then be changed."""
        self.history = ([copy.deepcopy(self.state)] + self.history)[:10]
        return self.state

    def report_cost(self):
        return oracle.cost(self.state, oracle.plan_sizes(self.state["plan"]))

    def failing(self):
        state = self.state
        return [p for p in oracle.possible(state["weights"])
                if not oracle.correct(state["plan"], state["weights"], state["values"], p)]

    def create(self, x_count, y_count):
        if x_count not in range(1, 5) or y_count not in range(1, 5):
            return [-22]
        self.state, self.history = start(x_count, y_count), []
        return [0]

    def put(self, kind, pair, number, most):
        if pair not in self.state["weights"]:
            return [-2]
        if number > most:
            return [-22]
        old = self.state[kind][pair]
        self.change()[kind][pair] = number
        return [old]

    def set_weight(self, x, y, weight):
        return self.put("weights", (x, y), weight, 99)

    def set_value(self, x, y, value):
        return self.put("values", (x, y), value, 9)

    def set_prices(self, x_price, y_price):
        if x_price not in range(1, 100) or y_price not in range(1, 100):
            return [-22]
        self.change().update(x_price=x_price, y_price=y_price)
        return [0]

    def cheapest_sizes(self, mode, goal):
        if mode > 3 or goal > 1:
            return [-22]
        sizes = oracle.cheapest_quickly(self.state, mode, goal)[0]
        return [oracle.cost(self.state, sizes)] + list(sizes)

    def choose_plan(self, mode, goal):
        if mode > 3 or goal > 1:
            return [-22]
        self.change()["plan"] = oracle.cheapest_quickly(self.state, mode, goal)[1]
        return [self.report_cost()]

    def cheapest_sizes_with_errors(self, percent):
        if percent > 100:
            return [-22]
        sizes = oracle.cheapest_with_errors(self.state, percent)[0]
        return [oracle.cost(self.state, sizes)] + list(sizes)

    def choose_plan_with_errors(self, percent):
        if percent > 100:
            return [-22]
        self.change()["plan"] = oracle.cheapest_with_errors(self.state, percent)[1]
        return [self.report_cost()]

    def get_plan(self):
        return oracle.shown(self.state["plan"]) if self.state["plan"] else [-6]

    def is_reliable(self):
        return [0 if self.failing() else 1] if self.state["plan"] else [-6]

    def list_failures(self):
        if not self.state["plan"]:
            return [-6]
        return [len(self.failing())] + [number for pair in self.failing() for number in pair]

    def evaluate_plan(self):
        if not self.state["plan"]:
            return [-6]
        right = oracle.correct_weight(self.state["plan"], self.state)
        return [right, sum(self.state["weights"].values()), self.report_cost()]

    def preview_report(self, x, y):
        state = self.state
        if (x, y) not in state["weights"]:
            return [-2]
        if not state["plan"]:
            return [-6]
        if state["weights"][x, y] == 0:
            return [-33]
        right = oracle.correct(state["plan"], state["weights"], state["values"], (x, y))
        seen = oracle.messages(state["plan"], (x, y)) + oracle.decoded(state["plan"], state["weights"], (x, y))
        return [int(right)] + list(seen) + [self.report_cost()]

    def send_report(self, x, y):
        told = self.preview_report(x, y)
        if len(told) > 1:
            ledger = self.change()["ledger"]
            ledger[0] += 1
            ledger[1] += told[0]
            ledger[2] += told[5]
        return told

    def ledger(self):
        return list(self.state["ledger"])

    def compare_modes(self, goal):
        if goal > 1:
            return [-22]
        return [4] + [self.cheapest_sizes(mode, goal)[0] for mode in range(4)]

    def drop_plan(self):
        if not self.state["plan"]:
            return [-6]
        mode = self.state["plan"][0]
        self.change()["plan"] = None
        return [mode]

    def undo(self):
        if not self.history:
            return [-6]
        self.state = self.history.pop(0)
        return [len(self.history)]

    def summary(self):
        state = self.state
        kind = state["plan"][0] + 1 if state["plan"] else 0
        return [state["x_count"], state["y_count"], len(oracle.possible(state["weights"])),
                state["x_price"], state["y_price"], kind, len(self.history)]
