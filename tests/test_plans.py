"""cheapest_sizes, choose_plan, get_plan, is_reliable: the four modes and the two goals."""

import unittest

import oracle
from talk import TOP, last, paired, talk
from worlds import make_world, world_calls

DIAGONAL = {(0, 0): 5, (1, 1): 3}
SHAPES = [(a, b) for a in range(1, 5) for b in range(1, 5)]
# The oracle tries all codes of all classes in mode 1, which takes long beyond these.
SMALL_SHAPES = [(a, b) for a, b in SHAPES if a <= 3 and b <= 3] + [(1, 4), (2, 4), (4, 1), (4, 2)]


class Example(unittest.TestCase):
    def test_the_documents_example(self):
        got = talk(*paired(2, 2, DIAGONAL), ("choose_plan", 0, 0), ("set_weight", 0, 1, 2), ("is_reliable",))
        self.assertEqual(got, [[0], [0], [0], [3], [0], [0]])

    def test_its_costs_of_the_four_modes(self):
        got = talk(*paired(2, 2, DIAGONAL), *[("cheapest_sizes", mode, 0) for mode in range(4)])
        self.assertEqual(got[3:], [[3, 1, 2], [2, 1, 1], [3, 2, 1], [1, 1, 0]])


class ByHand(unittest.TestCase):
    def plan(self, calls, mode, goal):
        """Return the answers of cheapest_sizes, choose_plan, get_plan and is_reliable."""
        return talk(*calls, ("cheapest_sizes", mode, goal), ("choose_plan", mode, goal), ("get_plan",),
                    ("is_reliable",))[-4:]

    def test_separate_symbols(self):
        # x 0 and x 1 share y 0, and y 0 and y 1 share x 0: three pairs need two times two cells.
        calls = paired(2, 2, {(0, 0): 1, (0, 1): 1, (1, 0): 1})
        self.assertEqual(self.plan(calls, 0, 0), [[4, 2, 2], [4], [0, 0, 2, 0, 1, 0, 1], [1]])

    def test_separate_value(self):
        # The value is the parity of y, so X needs one message and Y needs two.
        weights = {(x, y): 1 for x in range(3) for y in range(3)}
        calls = paired(3, 3, weights, {(x, 1): 1 for x in range(3)})
        self.assertEqual(self.plan(calls, 0, 1), [[3, 1, 2], [3], [0, 1, 3, 0, 0, 0, 0, 1, 0], [1]])

    def test_separate_value_skips_impossible_pairs(self):
        calls = paired(2, 2, {(0, 0): 1, (1, 1): 1}, {(0, 1): 1, (1, 0): 2})
        self.assertEqual(self.plan(calls, 0, 1), [[2, 1, 1], [2], [0, 1, 2, 0, 0, 0, 0], [1]])

    def test_query_symbols(self):
        # y 0 sees x 0 or 1, y 1 sees x 1 or 2, y 2 sees x 2 or 0. One code needs three messages;
        # two classes do with two each, and then the codes of the classes differ.
        weights = {(0, 0): 1, (1, 0): 1, (1, 1): 1, (2, 1): 1, (2, 2): 1, (0, 2): 1}
        self.assertEqual(self.plan(paired(3, 3, weights, None, (1, 1)), 1, 0),
                         [[4, 3, 1], [4], [1, 0, 9, 0, 1, 2, 0, 0, 0, 0, 0, 0, 0, 0, 0], [1]])
        self.assertEqual(self.plan(paired(3, 3, weights, None, (2, 1)), 1, 0),
                         [[6, 2, 2], [6], [1, 0, 9, 0, 1, 0, 0, 0, 1, 0, 0, 0, 0, 0, 1], [1]])

    def test_query_value(self):
        calls = paired(2, 2, {(0, 0): 1, (1, 0): 1, (0, 1): 1, (1, 1): 1}, {(0, 0): 3, (1, 0): 3})
        self.assertEqual(self.plan(calls, 1, 1), [[2, 1, 1], [2], [1, 1, 4, 0, 0, 0, 0, 0, 0], [1]])

    def test_helper_symbols(self):
        # With cheap classes the helper tells x 0 and x 1 apart by the class alone.
        self.assertEqual(self.plan(paired(2, 2, DIAGONAL, None, (5, 1)), 2, 0),
                         [[7, 1, 2], [7], [2, 0, 4, 0, 0, 0, 0, 0, 1], [1]])
        self.assertEqual(self.plan(paired(2, 2, DIAGONAL, None, (1, 5)), 2, 0),
                         [[7, 2, 1], [7], [2, 0, 4, 0, 1, 0, 1, 0, 0], [1]])

    def test_helper_value_may_cost_more_than_helper_symbols(self):
        # The receiver doesn't know y, but the value depends on it.
        calls = paired(1, 2, {(0, 0): 1, (0, 1): 1}, {(0, 1): 1})
        self.assertEqual(self.plan(calls, 2, 0), [[2, 1, 1], [2], [2, 0, 2, 0, 0, 0, 0], [1]])
        self.assertEqual(self.plan(calls, 2, 1), [[3, 1, 2], [3], [2, 1, 2, 0, 0, 0, 1], [1]])

    def test_one_way(self):
        weights = {(0, 0): 1, (1, 1): 1, (2, 1): 1}
        calls = paired(3, 2, weights, {(1, 1): 1, (2, 1): 1}, (4, 9))
        self.assertEqual(self.plan(calls, 3, 0), [[8, 2, 0], [8], [3, 0, 6, 0, 0, 1, 0, 0, 0, 0, 0], [1]])
        self.assertEqual(self.plan(calls, 3, 1), [[4, 1, 0], [4], [3, 1, 6, 0, 0, 0, 0, 0, 0, 0, 0], [1]])

    def test_one_way_has_one_class_alone(self):
        # Two classes would do with two messages each, but without a query there is one code.
        weights = {(0, 0): 1, (1, 0): 1, (1, 1): 1, (2, 1): 1, (2, 2): 1, (0, 2): 1}
        self.assertEqual(self.plan(paired(3, 3, weights, None, (9, 1)), 3, 0),
                         [[27, 3, 0], [27], [3, 0, 9, 0, 1, 2] + [0] * 9, [1]])

    def test_the_class_with_the_most_messages_counts(self):
        # y 0 tells all X symbols apart but 0 and 2, y 1 tells just these two apart.
        weights = {(x, 0): 1 for x in range(4)}
        weights.update({(0, 1): 1, (2, 1): 1})
        calls = paired(4, 2, weights, {(1, 0): 1, (3, 0): 2, (2, 1): 1}, (2, 1))
        self.assertEqual(self.plan(calls, 1, 1),
                         [[8, 3, 2], [8], [1, 1, 8, 0, 1, 0, 2, 0, 0, 1, 0, 0, 1], [1]])

    def test_a_class_may_use_as_many_messages_as_the_greatest_class(self):
        # y 0 to 2 tell 0 from 2, 1 from 3 and 2 from 3; its smallest code has 3 messages,
        # though 2 would do. With y 3 in the same class, 3 messages are needed.
        weights = {(0, 0): 1, (2, 0): 1, (1, 1): 1, (3, 1): 1, (2, 2): 1, (3, 2): 1}
        two = self.plan(paired(4, 3, weights), 3, 0)
        self.assertEqual(two, [[2, 2, 0], [2], [3, 0, 12, 0, 1, 1, 0] + [0] * 11, [1]])
        three = self.plan(paired(4, 4, {**weights, (0, 3): 1, (1, 3): 1, (2, 3): 1}), 3, 0)
        self.assertEqual(three, [[3, 3, 0], [3], [3, 0, 16, 0, 1, 2, 0] + [0] * 16, [1]])

    def test_also_beside_another_class(self):
        # y 0 and y 1 give the chain 0-2-3-1 as above, y 2 needs 3 messages; all in one class would
        # need 4. So the class of y 0 and y 1 has 3 messages free and takes the smallest code.
        weights = {(0, 0): 1, (2, 0): 1, (3, 0): 1, (1, 1): 1, (3, 1): 1}
        weights.update({(x, 2): 1 for x in range(4)})
        values = {(2, 0): 1, (1, 1): 1, (1, 2): 1, (3, 2): 2}
        calls = paired(4, 3, weights, values, (2, 1))
        codes = [0, 0, 1, 2, 0, 1, 0, 2, 0, 0, 0, 0]
        self.assertEqual(self.plan(calls, 1, 1), [[8, 3, 2], [8], [1, 1, 12] + codes + [0, 0, 1], [1]])

    def test_one_symbol_of_each_sensor(self):
        for mode, sizes in ((0, [2, 1, 1]), (1, [2, 1, 1]), (2, [2, 1, 1]), (3, [1, 1, 0])):
            for goal in (0, 1):
                self.assertEqual(self.plan(paired(1, 1, {(0, 0): 1}), mode, goal),
                                 [sizes, [sizes[0]], [mode, goal, 1, 0, 0], [1]])

    def test_four_symbols_of_each_sensor_all_possible(self):
        weights = {(x, y): 1 for x in range(4) for y in range(4)}
        calls = paired(4, 4, weights)
        every = [0, 1, 2, 3]
        self.assertEqual(self.plan(calls, 0, 0), [[8, 4, 4], [8], [0, 0, 4] + every + every, [1]])
        self.assertEqual(self.plan(calls, 1, 0), [[5, 4, 1], [5], [1, 0, 16] + every + [0] * 16, [1]])
        self.assertEqual(self.plan(calls, 2, 0), [[5, 4, 1], [5], [2, 0, 16] + every * 4 + [0] * 4, [1]])
        self.assertEqual(self.plan(calls, 3, 0), [[4, 4, 0], [4], [3, 0, 16] + every + [0] * 16, [1]])
        self.assertEqual(self.plan(calls, 0, 1), [[2, 1, 1], [2], [0, 1, 4] + [0] * 8, [1]])

    def test_no_possible_pair(self):
        calls = [("create", 3, 4), ("set_value", 0, 0, 9), ("set_prices", 99, 98)]
        for goal in (0, 1):
            self.assertEqual(self.plan(calls, 0, goal), [[197, 1, 1], [197], [0, goal, 3] + [0] * 7, [1]])
            self.assertEqual(self.plan(calls, 1, goal), [[197, 1, 1], [197], [1, goal, 12] + [0] * 16, [1]])
            self.assertEqual(self.plan(calls, 2, goal), [[197, 1, 1], [197], [2, goal, 12] + [0] * 16, [1]])
            self.assertEqual(self.plan(calls, 3, goal), [[99, 1, 0], [99], [3, goal, 12] + [0] * 16, [1]])


class Ties(unittest.TestCase):
    def test_mode_0_to_the_smaller_x_size(self):
        got = talk(*paired(2, 2, DIAGONAL), ("cheapest_sizes", 0, 0), ("set_prices", 2, 3), ("cheapest_sizes", 0, 0),
                   ("set_prices", 3, 2), ("cheapest_sizes", 0, 0))
        self.assertEqual(got[3::2], [[3, 1, 2], [7, 2, 1], [7, 1, 2]])

    def test_modes_1_and_2_to_the_smaller_y_size(self):
        weights = {(0, 0): 1, (1, 0): 1, (1, 1): 1, (2, 1): 1, (2, 2): 1, (0, 2): 1}
        self.assertEqual(last(*paired(3, 3, weights), ("cheapest_sizes", 1, 0)), [4, 3, 1])
        self.assertEqual(last(*paired(2, 2, DIAGONAL), ("cheapest_sizes", 2, 0)), [3, 2, 1])

    def test_to_the_smaller_list(self):
        # Two messages for three X symbols: 0 0 1 is the smallest list that works.
        calls = paired(3, 3, {(0, 0): 1, (1, 1): 1, (2, 2): 1}, {(1, 1): 1}, (1, 99))
        self.assertEqual(talk(*calls, ("choose_plan", 0, 1), ("get_plan",))[-2:],
                         [[101], [0, 1, 3, 0, 1, 0, 0, 0, 0]])
        calls = paired(3, 3, {(0, 0): 1, (1, 1): 1, (2, 2): 1}, {(2, 2): 1}, (1, 99))
        self.assertEqual(talk(*calls, ("choose_plan", 0, 1), ("get_plan",))[-2:],
                         [[101], [0, 1, 3, 0, 0, 1, 0, 0, 0]])


class Everything(unittest.TestCase):
    """Compares with the oracle, which tries everything."""

    def compare(self, world, mode, goal, find=oracle.cheapest):
        sizes, plan = find(world, mode, goal)
        cost = oracle.cost(world, sizes)
        got = talk(*world_calls(world), ("cheapest_sizes", mode, goal),
                   ("choose_plan", mode, goal), ("get_plan",), ("is_reliable",))[-4:]
        self.assertEqual(got, [[cost] + list(sizes), [cost], oracle.shown(plan), [1]], (world, mode, goal))

    def test_modes_0_and_2(self):
        for x_count, y_count in SHAPES:
            for seed in range(3):
                world = make_world(seed, x_count, y_count)
                for goal in (0, 1):
                    self.compare(world, 0, goal)
                    self.compare(world, 2, goal)

    def test_modes_1_and_3(self):
        for x_count, y_count in SMALL_SHAPES:
            for seed in range(3):
                world = make_world(seed, x_count, y_count)
                for goal in (0, 1):
                    self.compare(world, 1, goal)
                    self.compare(world, 3, goal)

    def test_modes_1_and_3_class_by_class(self):
        for x_count, y_count in SHAPES:
            for seed in range(8):
                world = make_world(seed, x_count, y_count)
                for goal in (0, 1):
                    self.compare(world, 1, goal, oracle.cheapest_by_class)
                    self.compare(world, 3, goal, oracle.cheapest_by_class)


class Reliable(unittest.TestCase):
    def test_a_changed_weight_or_value(self):
        got = talk(*paired(2, 2, DIAGONAL), ("choose_plan", 0, 0), ("is_reliable",), ("set_weight", 1, 0, 1),
                   ("is_reliable",), ("set_weight", 1, 0, 0), ("is_reliable",), ("set_weight", 0, 0, 99),
                   ("is_reliable",), ("set_value", 0, 0, 9), ("is_reliable",))
        self.assertEqual(got[4::2], [[1], [0], [1], [1], [1]])

    def test_goal_1_needs_the_value_alone(self):
        got = talk(*paired(2, 2, DIAGONAL), ("choose_plan", 0, 1), ("set_weight", 0, 1, 1), ("is_reliable",),
                   ("set_value", 0, 1, 1), ("is_reliable",), ("set_weight", 0, 1, 0), ("is_reliable",))
        self.assertEqual(got[3:], [[2], [0], [1], [0], [0], [1], [1]])

    def test_modes_1_and_3_know_y(self):
        for mode in (1, 3):
            got = talk(*paired(2, 2, DIAGONAL), ("choose_plan", mode, 0), ("is_reliable",), ("set_weight", 0, 1, 1),
                       ("is_reliable",))
            self.assertEqual(got[4:], [[1], [0], [0]])

    def test_mode_2_knows_the_class_alone(self):
        # Both Y symbols get class 0 as long as x 0 alone is possible.
        got = talk(*paired(2, 2, {(0, 0): 1, (0, 1): 1}), ("choose_plan", 2, 0), ("is_reliable",),
                   ("set_weight", 0, 0, 0), ("set_weight", 1, 0, 1), ("is_reliable",))
        self.assertEqual(got[3:], [[2], [1], [1], [0], [0]])
        got = talk(*paired(2, 2, {(0, 0): 1, (0, 1): 1}), ("choose_plan", 1, 0), ("is_reliable",),
                   ("set_weight", 0, 0, 0), ("set_weight", 1, 0, 1), ("is_reliable",))
        self.assertEqual(got[3:], [[2], [1], [1], [0], [1]])

    def test_as_the_oracle_says_after_changes(self):
        for seed in range(60):
            before = make_world(seed, 3, 2)
            after = make_world(seed + 1000, 3, 2)
            mode = seed % 4
            goal = seed // 4 % 2
            plan = oracle.cheapest(before, mode, goal)[1]
            changes = [("set_weight",) + p + (w,) for p, w in after["weights"].items()]
            changes += [("set_value",) + p + (after["values"][p],) for p in list(after["values"])[:4]]
            values = dict(before["values"])
            for p in list(values)[:4]:
                values[p] = after["values"][p]
            calls = world_calls(before) + [("choose_plan", mode, goal)] + changes + [("get_plan",), ("is_reliable",)]
            self.assertLessEqual(len(calls), 30)
            wanted = [oracle.shown(plan), [1 if oracle.reliable(plan, after["weights"], values) else 0]]
            self.assertEqual(talk(*calls)[-2:], wanted, seed)


class Refused(unittest.TestCase):
    def test_mode_and_goal_out_of_range(self):
        for mode, goal in ((4, 0), (0, 2), (4, 2), (TOP, 0), (0, TOP), (3, 2), (4, 1)):
            got = talk(("create", 2, 2), ("cheapest_sizes", mode, goal), ("choose_plan", mode, goal), ("get_plan",))
            self.assertEqual(got, [[0], [-22], [-22], [-6]])

    def test_a_refused_choice_leaves_the_plan(self):
        got = talk(*paired(2, 2, DIAGONAL), ("choose_plan", 0, 0), ("choose_plan", 4, 0), ("choose_plan", 0, 2),
                   ("choose_plan_with_errors", 101), ("get_plan",), ("is_reliable",))
        self.assertEqual(got[4:], [[-22], [-22], [-22], [0, 0, 2, 0, 0, 0, 1], [1]])

    def test_no_plan(self):
        self.assertEqual(talk(("create", 2, 2), ("get_plan",), ("is_reliable",)), [[0], [-6], [-6]])

    def test_cheapest_sizes_takes_no_plan(self):
        got = talk(("create", 2, 2), ("cheapest_sizes", 0, 0), ("cheapest_sizes_with_errors", 0), ("get_plan",))
        self.assertEqual(got[3], [-6])


if __name__ == "__main__":
    unittest.main()
