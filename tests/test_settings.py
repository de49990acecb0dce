"""create, set_weight, set_value, set_prices: answers, edges and refusals."""

import unittest

from talk import TOP, paired, talk

ALL_PAIRS_OF_TWO = {(0, 0): 1, (0, 1): 1, (1, 0): 1, (1, 1): 1}


class Create(unittest.TestCase):
    def test_every_count_from_1_to_4(self):
        for x_count in range(1, 5):
            for y_count in range(1, 5):
                got = talk(("create", x_count, y_count),
                           ("set_weight", x_count - 1, y_count - 1, 1),
                           ("set_weight", x_count, y_count - 1, 1),
                           ("set_weight", x_count - 1, y_count, 1))
                self.assertEqual(got, [[0], [0], [-2], [-2]])

    def test_counts_out_of_range(self):
        for counts in ((0, 1), (1, 0), (0, 0), (5, 1), (1, 5), (5, 5), (TOP, 2), (2, TOP), (0, 5)):
            self.assertEqual(talk(("create",) + counts, ("get_plan",)), [[-22], [-11]])

    def test_begins_with_zeros_and_prices_of_1(self):
        got = talk(("create", 2, 2), ("cheapest_sizes", 0, 0), ("get_plan",), ("set_weight", 0, 0, 4),
                   ("set_value", 1, 1, 4))
        self.assertEqual(got, [[0], [2, 1, 1], [-6], [0], [0]])

    def test_replaces_an_instance(self):
        got = talk(("create", 2, 2), ("set_weight", 0, 0, 5), ("set_value", 0, 0, 5), ("set_prices", 7, 8),
                   ("choose_plan", 0, 0), ("create", 3, 1), ("get_plan",), ("set_weight", 0, 0, 1),
                   ("set_value", 0, 0, 1), ("cheapest_sizes", 0, 0), ("set_weight", 0, 1, 1),
                   ("set_weight", 2, 0, 1))
        self.assertEqual(got[5:], [[0], [-6], [0], [0], [2, 1, 1], [-2], [0]])

    def test_failing_create_leaves_the_instance(self):
        got = talk(("create", 2, 3), ("set_weight", 1, 2, 5), ("set_value", 1, 2, 6), ("set_prices", 7, 8),
                   ("choose_plan", 0, 0), ("create", 5, 1), ("create", 1, 0), ("get_plan",),
                   ("set_weight", 1, 2, 5), ("set_value", 1, 2, 6), ("cheapest_sizes", 0, 0))
        self.assertEqual(got[4:], [[15], [-22], [-22], [0, 0, 2, 0, 0, 0, 0, 0], [5], [6], [15, 1, 1]])

    def test_failing_create_before_any_instance(self):
        self.assertEqual(talk(("create", 0, 1), ("set_prices", 1, 1), ("create", 1, 1), ("set_prices", 1, 1)),
                         [[-22], [-11], [0], [0]])


class SetWeight(unittest.TestCase):
    def test_returns_the_previous_weight(self):
        got = talk(("create", 2, 3), ("set_weight", 0, 1, 5), ("set_weight", 0, 1, 7), ("set_weight", 1, 0, 3),
                   ("set_weight", 0, 1, 0), ("set_weight", 0, 1, 0), ("set_weight", 1, 0, 0))
        self.assertEqual(got, [[0], [0], [5], [0], [7], [0], [3]])

    def test_each_pair_has_its_own_weight(self):
        pairs = [(x, y) for x in range(3) for y in range(4)]
        calls = paired(3, 4, {pair: 10 + place for place, pair in enumerate(pairs)})
        got = talk(*calls, *[("set_weight",) + pair + (0,) for pair in pairs])
        self.assertEqual(got[13:], [[10 + place] for place in range(12)])

    def test_99_and_100(self):
        got = talk(("create", 1, 1), ("set_weight", 0, 0, 99), ("set_weight", 0, 0, 100),
                   ("set_weight", 0, 0, TOP), ("set_weight", 0, 0, 1))
        self.assertEqual(got, [[0], [0], [-22], [-22], [99]])

    def test_symbol_ahead_of_range(self):
        for x, y in ((2, 0), (0, 3), (TOP, 0), (0, TOP), (2, 3)):
            self.assertEqual(talk(("create", 2, 3), ("set_weight", x, y, 1), ("set_weight", x, y, 100)),
                             [[0], [-2], [-2]])

    def test_an_error_changes_no_weight(self):
        # A pair behind the last Y symbol must not land in the next row.
        got = talk(*paired(2, 2, ALL_PAIRS_OF_TWO), ("set_weight", 0, 2, 9), ("set_weight", 2, 0, 9),
                   *[("set_weight",) + pair + (1,) for pair in ALL_PAIRS_OF_TWO])
        self.assertEqual(got[5:], [[-2], [-2], [1], [1], [1], [1]])

    def test_leaves_values_prices_and_plan(self):
        got = talk(*paired(2, 2, {(0, 0): 1}, {(0, 0): 4}, (3, 5)), ("choose_plan", 0, 1), ("set_weight", 1, 1, 1),
                   ("get_plan",), ("set_value", 0, 0, 4), ("cheapest_sizes", 3, 0))
        self.assertEqual(got[4:], [[8], [0], [0, 1, 2, 0, 0, 0, 0], [4], [3, 1, 0]])


class SetValue(unittest.TestCase):
    def test_returns_the_previous_value_also_of_impossible_pairs(self):
        got = talk(("create", 2, 2), ("set_value", 1, 0, 5), ("set_value", 1, 0, 7), ("set_value", 0, 1, 2),
                   ("set_weight", 1, 0, 3), ("set_value", 1, 0, 0), ("set_value", 1, 0, 1), ("set_weight", 1, 0, 0))
        self.assertEqual(got, [[0], [0], [5], [0], [0], [7], [0], [3]])

    def test_9_and_10(self):
        got = talk(("create", 1, 1), ("set_value", 0, 0, 9), ("set_value", 0, 0, 10), ("set_value", 0, 0, TOP),
                   ("set_value", 0, 0, 1))
        self.assertEqual(got, [[0], [0], [-22], [-22], [9]])

    def test_symbol_ahead_of_range(self):
        for x, y in ((3, 0), (0, 2), (TOP, 0), (0, TOP), (3, 2)):
            self.assertEqual(talk(("create", 3, 2), ("set_value", x, y, 1), ("set_value", x, y, 10)),
                             [[0], [-2], [-2]])

    def test_leaves_the_plan(self):
        got = talk(*paired(2, 1, {(0, 0): 1, (1, 0): 1}), ("choose_plan", 0, 1), ("set_value", 0, 0, 1),
                   ("get_plan",), ("is_reliable",))
        self.assertEqual(got[3:], [[2], [0], [0, 1, 2, 0, 0, 0], [0]])


class SetPrices(unittest.TestCase):
    def test_1_and_99(self):
        for prices in ((1, 99), (99, 1), (1, 1), (99, 99)):
            got = talk(("create", 1, 1), ("set_prices",) + prices, ("cheapest_sizes", 0, 0))
            self.assertEqual(got, [[0], [0], [sum(prices), 1, 1]])

    def test_0_and_100(self):
        for prices in ((0, 1), (1, 0), (100, 1), (1, 100), (TOP, 1), (1, TOP), (0, 0)):
            got = talk(("create", 1, 1), ("set_prices", 5, 7), ("set_prices",) + prices, ("cheapest_sizes", 0, 0))
            self.assertEqual(got, [[0], [0], [-22], [12, 1, 1]])

    def test_leaves_the_plan(self):
        got = talk(*paired(2, 2, {(0, 0): 5, (1, 1): 3}), ("choose_plan", 0, 0), ("set_prices", 1, 9), ("get_plan",),
                   ("cheapest_sizes", 0, 0))
        self.assertEqual(got[3:], [[3], [0], [0, 0, 2, 0, 0, 0, 1], [11, 2, 1]])


class NoInstance(unittest.TestCase):
    def test_every_operation_but_create(self):
        # Also with arguments that would be refused otherwise.
        for number, count in enumerate((3, 3, 2, 2, 2, 1, 1, 0, 0, 0, 0, 2, 2, 0, 1, 0, 0, 0), 1):
            for argument in (0, 1, TOP):
                self.assertEqual(talk((number,) + (argument,) * count, ("create", 1, 1)), [[-11], [0]])

    def test_after_a_failing_create(self):
        self.assertEqual(talk(("create", 9, 9), ("set_weight", 9, 9, 100), ("cheapest_sizes", 4, 2), ("is_reliable",)),
                         [[-22], [-11], [-11], [-11]])


if __name__ == "__main__":
    unittest.main()
