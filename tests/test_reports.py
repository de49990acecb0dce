"""What a report is decoded as, on which is_reliable rests."""

import unittest

import oracle
from pairsend.plans import Plan
from pairsend.reports import decoded_pair, is_correct
from pairsend.states import State
from worlds import make_world


def state_of(world):
    state = State(world["x_count"], world["y_count"])
    for pair, weight in world["weights"].items():
        state.put_weight(pair[0], pair[1], weight)
    for pair, value in world["values"].items():
        state.put_value(pair[0], pair[1], value)
    return state


class Decoded(unittest.TestCase):
    def test_mode_0_takes_the_heaviest_pair_and_then_the_earliest(self):
        plan = Plan(0, 0, [[0, 0]], [0, 0])
        state = State(2, 2)
        state.put_weight(0, 1, 3)
        state.put_weight(1, 0, 4)
        state.put_weight(1, 1, 4)
        self.assertEqual([decoded_pair(state, plan, 0, 1), decoded_pair(state, plan, 1, 1)], [(1, 0), (1, 0)])

    def test_the_other_modes_take_the_first_pair(self):
        state = State(2, 2)
        state.put_weight(0, 1, 3)
        state.put_weight(1, 0, 4)
        state.put_weight(1, 1, 5)
        for mode, wanted in ((1, (0, 1)), (2, (0, 1)), (3, (0, 1))):
            plan = Plan(mode, 0, [[0, 0], [0, 0]], [0, 0])
            self.assertEqual(decoded_pair(state, plan, 1, 1), wanted)
        self.assertEqual(decoded_pair(state, Plan(2, 0, [[0, 0], [0, 0]], [0, 0]), 1, 0), (0, 1))
        self.assertEqual(decoded_pair(state, Plan(1, 0, [[0, 0], [0, 0]], [0, 0]), 1, 0), (1, 0))

    def test_as_the_oracle_says(self):
        for seed in range(20):
            world = make_world(seed, 3, 2, spread=3)
            state = state_of(world)
            for mode in range(4):
                for plan in oracle.plans(world, mode, seed % 2)[::3]:
                    own = Plan(*plan)
                    for pair in oracle.possible(world["weights"]):
                        self.assertEqual(decoded_pair(state, own, pair[0], pair[1]),
                                         oracle.decoded(plan, world["weights"], pair))
                        self.assertEqual(is_correct(state, own, pair[0], pair[1]),
                                         oracle.correct(plan, world["weights"], world["values"], pair))


class Sizes(unittest.TestCase):
    def test_only_classes_that_occur_count(self):
        codes = [[0, 1, 0], [0, 0, 0], [0, 1, 2]]
        for classes, sizes in (([0, 0, 0], (2, 1)), ([0, 1, 1], (2, 2)), ([0, 1, 2], (3, 3))):
            plan = Plan(1, 0, codes, classes)
            self.assertEqual((plan.x_size(), plan.y_size()), sizes)
            self.assertEqual(oracle.plan_sizes((1, 0, codes, classes)), sizes)

    def test_mode_0_counts_both_codes_and_mode_3_no_class(self):
        plan = Plan(0, 0, [[0, 1, 0]], [0, 1, 2])
        self.assertEqual((plan.x_size(), plan.y_size()), (2, 3))
        plan = Plan(3, 0, [[0, 1, 2], [0, 0, 0]], [0, 0])
        self.assertEqual((plan.x_size(), plan.y_size()), (3, 0))


if __name__ == "__main__":
    unittest.main()
