"""cheapest_sizes_with_errors and choose_plan_with_errors."""

import unittest

import oracle
from talk import TOP, last, paired, talk
from worlds import make_world, world_calls

SHAPES = [(a, b) for a in range(1, 5) for b in range(1, 5)]
PERCENTS = (0, 1, 37, 50, 75, 90, 99, 100)


class ByHand(unittest.TestCase):
    DIAGONAL = {(0, 0): 5, (1, 1): 3}

    def test_exactly_the_percentage_is_enough(self):
        # One cell is right for 60 of 100, two cells are right for all.
        calls = paired(2, 2, {(0, 0): 60, (1, 1): 40})
        got = talk(*calls, ("cheapest_sizes_with_errors", 60), ("cheapest_sizes_with_errors", 61))
        self.assertEqual(got[3:], [[2, 1, 1], [3, 1, 2]])

    def test_no_rounding(self):
        # 5 of 8 are 62.5 percent.
        got = talk(*paired(2, 2, self.DIAGONAL), ("cheapest_sizes_with_errors", 62), ("choose_plan_with_errors", 62),
                   ("get_plan",), ("is_reliable",), ("cheapest_sizes_with_errors", 63),
                   ("choose_plan_with_errors", 63), ("get_plan",), ("is_reliable",))
        self.assertEqual(got[3:], [[2, 1, 1], [2], [0, 0, 2, 0, 0, 0, 0], [0],
                                   [3, 1, 2], [3], [0, 0, 2, 0, 0, 0, 1], [1]])

    def test_0_percent(self):
        got = talk(*paired(4, 4, {(0, 0): 9, (3, 3): 9, (0, 3): 1}, None, (99, 98)),
                   ("cheapest_sizes_with_errors", 0), ("choose_plan_with_errors", 0), ("get_plan",))
        self.assertEqual(got[5:], [[197, 1, 1], [197], [0, 0, 4] + [0] * 8])

    def test_100_percent_costs_as_much_as_the_lossless_codes(self):
        for seed in range(12):
            calls = world_calls(make_world(seed, 3, 4))
            got = talk(*calls, ("cheapest_sizes", 0, 0), ("cheapest_sizes_with_errors", 100))
            self.assertEqual(got[-1], got[-2])

    def test_no_possible_pair(self):
        for percent in (0, 50, 100):
            got = talk(("create", 4, 3), ("choose_plan_with_errors", percent), ("get_plan",), ("is_reliable",),
                       ("cheapest_sizes_with_errors", percent))
            self.assertEqual(got[1:], [[2], [0, 0, 4] + [0] * 7, [1], [2, 1, 1]])

    def test_tie_of_cost_to_the_smaller_x_size(self):
        calls = paired(2, 2, {(0, 0): 1, (1, 1): 1})
        self.assertEqual(last(*calls, ("cheapest_sizes_with_errors", 51)), [3, 1, 2])
        self.assertEqual(last(*calls, ("set_prices", 1, 2), ("cheapest_sizes_with_errors", 51)), [4, 2, 1])

    def test_the_greatest_weight_ahead_of_the_smaller_code(self):
        # 0 0 1 would be good enough for 60 percent, but 0 1 0 is right for more.
        calls = paired(3, 1, {(0, 0): 40, (1, 0): 35, (2, 0): 25})
        got = talk(*calls, ("choose_plan_with_errors", 60), ("get_plan",))
        self.assertEqual(got[-2:], [[3], [0, 0, 3, 0, 1, 0, 0]])

    def test_tie_of_weight_to_the_smaller_codes(self):
        calls = paired(3, 1, {(0, 0): 30, (1, 0): 30, (2, 0): 30})
        self.assertEqual(last(*calls, ("choose_plan_with_errors", 60), ("get_plan",)), [0, 0, 3, 0, 0, 1, 0])
        calls = paired(1, 3, {(0, 0): 30, (0, 1): 30, (0, 2): 30})
        self.assertEqual(last(*calls, ("choose_plan_with_errors", 60), ("get_plan",)), [0, 0, 1, 0, 0, 0, 1])

    def test_values_play_no_part(self):
        calls = paired(2, 2, self.DIAGONAL, {(0, 0): 9})
        self.assertEqual(last(*calls, ("cheapest_sizes_with_errors", 100)), [3, 1, 2])


class Refused(unittest.TestCase):
    def test_100_and_101(self):
        got = talk(("create", 2, 2), ("cheapest_sizes_with_errors", 100), ("cheapest_sizes_with_errors", 101),
                   ("cheapest_sizes_with_errors", TOP), ("choose_plan_with_errors", 101),
                   ("choose_plan_with_errors", TOP), ("get_plan",), ("choose_plan_with_errors", 100))
        self.assertEqual(got, [[0], [2, 1, 1], [-22], [-22], [-22], [-22], [-6], [2]])


class Everything(unittest.TestCase):
    def test_as_the_oracle_says(self):
        for x_count, y_count in SHAPES:
            for seed in range(3):
                # Few different weights make ties.
                world = make_world(seed, x_count, y_count, spread=(2, 9, 99)[seed])
                world["values"] = {pair: 0 for pair in world["weights"]}
                for percent in PERCENTS:
                    sizes, plan = oracle.cheapest_with_errors(world, percent)
                    cost = oracle.cost(world, sizes)
                    wanted = [[cost] + list(sizes), [cost], oracle.shown(plan),
                              [1 if oracle.reliable(plan, world["weights"], world["values"]) else 0]]
                    got = talk(*world_calls(world), ("cheapest_sizes_with_errors", percent),
                               ("choose_plan_with_errors", percent), ("get_plan",), ("is_reliable",))[-4:]
                    self.assertEqual(got, wanted, (world, percent))

    def test_a_lower_percentage_never_costs_more(self):
        for seed in range(6):
            calls = world_calls({**make_world(seed, 4, 3), "values": {}})
            lossless = last(*calls, ("cheapest_sizes", 0, 0))[0]
            costs = [last(*calls, ("cheapest_sizes_with_errors", percent))[0] for percent in range(0, 101, 4)]
            self.assertEqual(costs, sorted(costs))
            self.assertLessEqual(costs[-1], lossless)


if __name__ == "__main__":
    unittest.main()
