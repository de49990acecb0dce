"""What an instance holds: its present state, and the states before the latest changes."""

HISTORY_LIMIT = 10


class State:
    """The symbols, the pairs, the prices, the plan (or None) and the ledger.

    A state that an instance holds isn't changed any more: a change is made on a twin,
    so that the history can keep the state itself.
    """

    def __init__(self, x_count, y_count):
        self.x_count = x_count
        self.y_count = y_count
        self.weights = [0] * (x_count * y_count)
        self.pair_values = [0] * (x_count * y_count)
        self.x_price = 1
        self.y_price = 1
        self.plan = None
        self.sent_count = 0
        self.correct_count = 0
        self.total_cost = 0

    def twin(self):
        """Return a state of its own that holds the same."""
        other = State(self.x_count, self.y_count)
        other.weights = list(self.weights)
        other.pair_values = list(self.pair_values)
        other.x_price = self.x_price
        other.y_price = self.y_price
        other.plan = self.plan
        other.sent_count = self.sent_count
        other.correct_count = self.correct_count
        other.total_cost = self.total_cost
        return other

    def has_symbols(self, x, y):
        """Return whether there are this X symbol and this Y symbol."""
        return x < self.x_count and y < self.y_count

    def place(self, x, y):
        """Return where the pair stands in the lists of all pairs."""
        return x * self.y_count + y

    def weight_of(self, x, y):
        """Return the weight of the pair."""
        return self.weights[self.place(x, y)]

    def value_of(self, x, y):
        """Return the value of the pair."""
        return self.pair_values[self.place(x, y)]

    def put_weight(self, x, y, weight):
        """Give the pair this weight."""
        self.weights[self.place(x, y)] = weight

    def put_value(self, x, y, value):
        """Give the pair this value."""
        self.pair_values[self.place(x, y)] = value

    def record(self, correct, cost):
        """Write a report of this cost in the ledger; correct is 1 or 0."""
        self.sent_count += 1
        self.correct_count += correct
        self.total_cost += cost

    def possible_pairs(self):
        """Return the possible pairs in their order."""
        pairs = []
        for x in range(self.x_count):
            for y in range(self.y_count):
                if self.weight_of(x, y) > 0:
                    pairs.append((x, y))
        return pairs

    def total_weight(self):
        """Return the sum of all weights."""
        return sum(self.weights)

    def cost(self, x_size, y_size):
        """Return what these sizes cost at the present prices."""
        return self.x_price * x_size + self.y_price * y_size


class Instance:
    """The present state (None until it is created) and the history, the latest state first."""

    def __init__(self):
        self.state = None
        self.history = []

    def begin(self, state):
        """Replace whatever there was by this state, without a history."""
        self.state = state
        self.history = []

    def change(self, state):
        """Make this the present state and remember the one before it."""
        remembered = [self.state] + self.history
        self.history = remembered[:HISTORY_LIMIT]
        self.state = state

    def step_back(self):
        """Make the state before the latest change the present one again."""
        self.state = self.history[0]
        self.history = self.history[1:]
