"""The requirements 1 to 7 of the document, one class each, and its example."""

import itertools
import random
import unittest

import oracle
from pairsend import operations
from pairsend.desk import answers
from talk import TOP, flat, last, talk, watched
from worlds import made_instance, make_world, picture, world_calls

SHAPES = [(a, b) for a in range(1, 5) for b in range(1, 5)]
PERCENTS = (0, 1, 20, 34, 50, 51, 67, 75, 80, 90, 99, 100)

CHANGES = [
    (operations.set_weight, 0, 0, 7), (operations.set_value, 0, 0, 3), (operations.set_prices, 5, 6),
    (operations.choose_plan, 2, 0), (operations.choose_plan_with_errors, 50), (operations.send_report, 0, 0),
    (operations.drop_plan,),
]
QUERIES = [
    (operations.cheapest_sizes, 1, 0), (operations.cheapest_sizes_with_errors, 60), (operations.get_plan,),
    (operations.is_reliable,), (operations.list_failures,), (operations.evaluate_plan,),
    (operations.preview_report, 0, 0), (operations.ledger,), (operations.compare_modes, 0),
    (operations.compare_modes, 1), (operations.summary,),
]
REFUSED = [
    ("create", 5, 1), ("create", 1, 0), ("set_weight", 2, 0, 1), ("set_weight", 0, 2, 1), ("set_weight", 0, 0, 100),
    ("set_value", 2, 0, 1), ("set_value", 0, 2, 1), ("set_value", 0, 0, 10), ("set_prices", 0, 1),
    ("set_prices", 1, 100), ("cheapest_sizes", 4, 0), ("cheapest_sizes", 0, 2), ("choose_plan", 4, 0),
    ("choose_plan", 0, 2), ("cheapest_sizes_with_errors", 101), ("choose_plan_with_errors", 101),
    ("send_report", 2, 0), ("send_report", 0, TOP), ("send_report", 1, 0), ("preview_report", 0, 2),
    ("preview_report", 1, 0), ("compare_modes", 2),
]
REFUSED_WITHOUT_PLAN = [
    ("get_plan",), ("is_reliable",), ("list_failures",), ("evaluate_plan",), ("send_report", 0, 0),
    ("preview_report", 0, 0), ("drop_plan",),
]
SEEN = [("get_plan",), ("is_reliable",), ("list_failures",), ("evaluate_plan",), ("preview_report", 0, 0),
        ("preview_report", 1, 1), ("ledger",), ("summary",), ("compare_modes", 0), ("compare_modes", 1),
        ("cheapest_sizes", 2, 1), ("cheapest_sizes_with_errors", 60)]
# Something in each part of the instance; the pair (1, 0) is not possible.
FULL = [("create", 2, 2), ("set_weight", 0, 0, 5), ("set_weight", 1, 1, 3), ("set_value", 1, 1, 2),
        ("set_prices", 4, 7), ("choose_plan", 0, 0), ("set_weight", 0, 1, 9), ("send_report", 0, 0)]


class Example(unittest.TestCase):
    ROWS = [
        (("create", 2, 2), [0]),
        (("set_weight", 0, 0, 5), [0]),
        (("set_weight", 1, 1, 3), [0]),
        (("compare_modes", 0), [4, 3, 2, 3, 1]),
        (("choose_plan", 0, 0), [3]),
        (("send_report", 1, 1), [1, 0, 1, 1, 1, 3]),
        (("set_weight", 0, 1, 2), [0]),
        (("is_reliable",), [0]),
        (("list_failures",), [1, 0, 1]),
        (("preview_report", 1, 0), [-33]),
        (("undo",), [4]),
    ]

    def test_every_row(self):
        self.assertEqual(talk(*[call for call, answer in self.ROWS]), [answer for call, answer in self.ROWS])

    def test_as_flat_lists_and_nothing_handed_in_is_changed(self):
        calls = [0, 2, 2, 1, 0, 0, 5, 1, 1, 1, 3, 15, 0, 5, 0, 0, 12, 1, 1, 1, 0, 1, 2, 9, 10, 13, 1, 0, 17]
        wanted = [1, 0, 1, 0, 1, 0, 5, 4, 3, 2, 3, 1, 1, 3, 6, 1, 0, 1, 1, 1, 3, 1, 0, 1, 0, 3, 1, 0, 1, 1, -33, 1, 4]
        handed = list(calls)
        for time in range(2):
            got = answers(handed)
            self.assertEqual(got, wanted)
            self.assertTrue(all(type(number) is int for number in got))
            self.assertEqual(handed, calls)

    def test_answers_are_whole_numbers_only(self):
        calls = flat(FULL + SEEN + [("drop_plan",), ("undo",), ("summary",)])
        handed = list(calls)
        self.assertEqual({type(number) for number in answers(handed)}, {int})
        self.assertEqual(handed, calls)


class ChosenPlansAreReliable(unittest.TestCase):
    """Point 1."""

    def check(self, instance, pairs):
        self.assertEqual(operations.is_reliable(instance), [1])
        self.assertEqual(operations.list_failures(instance), [0])
        correct, total, cost = operations.evaluate_plan(instance)
        self.assertEqual(correct, total)
        for x, y in pairs:
            if instance.state.weight_of(x, y):
                self.assertEqual(operations.preview_report(instance, x, y)[0], 1)

    def test_every_mode_and_goal(self):
        for (x_count, y_count), mode, goal in itertools.product(SHAPES, range(4), (0, 1)):
            for seed in range(3):
                world = make_world(seed, x_count, y_count)
                draw = random.Random(f"{seed} {mode} {goal}")
                pairs = oracle.possible(world["weights"])
                instance = made_instance(world)
                operations.choose_plan(instance, mode, goal)
                self.check(instance, pairs)
                for step in range(6):
                    # Pairs may become impossible and heavier or lighter, but no others possible.
                    for x, y in pairs:
                        if instance.state.weight_of(x, y):
                            operations.set_weight(instance, x, y, draw.choice([0, 1, 1, 2, 50, 99]))
                    for x, y in world["values"]:
                        if not instance.state.weight_of(x, y):
                            operations.set_value(instance, x, y, draw.randint(0, 9))
                    operations.set_prices(instance, draw.randint(1, 99), draw.randint(1, 99))
                    self.check(instance, pairs)

    def test_after_an_undo_of_what_made_it_fail(self):
        got = talk(*FULL[:6], ("set_weight", 1, 0, 4), ("is_reliable",), ("undo",), ("is_reliable",),
                   ("set_weight", 0, 1, 4), ("is_reliable",), ("set_weight", 0, 1, 0), ("is_reliable",))
        self.assertEqual(got[7::2], [[0], [1], [0], [1]])


class Cheapest(unittest.TestCase):
    """Point 2."""

    def test_no_lossless_pair_of_codes_is_cheaper(self):
        # The codes needn't be canonical: any two lists of messages are tried.
        for x_count, y_count in ((2, 2), (3, 3), (4, 2), (2, 4), (4, 1), (1, 4), (4, 3)):
            for seed in range(4):
                world = make_world(seed, x_count, y_count)
                pairs = oracle.possible(world["weights"])
                costs = []
                for x_code in itertools.product(range(x_count), repeat=x_count):
                    for y_code in itertools.product(range(y_count), repeat=y_count):
                        if len({(x_code[x], y_code[y]) for x, y in pairs}) == len(pairs):
                            costs.append(oracle.cost(world, (len(set(x_code)), len(set(y_code)))))
                got = talk(*world_calls(world), ("cheapest_sizes", 0, 0), ("choose_plan", 0, 0), ("evaluate_plan",))
                self.assertEqual([got[-3][0], got[-2][0], got[-1][2]], [min(costs)] * 3)


class ErrorsWithinTheLimit(unittest.TestCase):
    """Point 3."""

    def test_share_and_cost(self):
        for x_count, y_count in SHAPES:
            for seed in range(3):
                world = make_world(seed, x_count, y_count, spread=(3, 9, 99)[seed])
                instance = made_instance(world)
                lossless = operations.cheapest_sizes(instance, 0, 0)[0]
                costs = []
                for percent in PERCENTS:
                    cost = operations.choose_plan_with_errors(instance, percent)[0]
                    correct, total, report_cost = operations.evaluate_plan(instance)
                    self.assertGreaterEqual(100 * correct, percent * total)
                    self.assertEqual(total, sum(world["weights"].values()))
                    self.assertEqual(report_cost, cost)
                    self.assertLessEqual(cost, lossless)
                    costs.append(cost)
                self.assertEqual(costs, sorted(costs))
                self.assertEqual(costs[-1], lossless)

    def test_never_less_correct_than_the_best_codes_of_these_sizes(self):
        for seed in range(6):
            world = {**make_world(seed, 3, 3), "values": {}}
            for percent in PERCENTS:
                plan = oracle.cheapest_with_errors(world, percent)[1]
                got = last(*world_calls(world), ("choose_plan_with_errors", percent), ("evaluate_plan",))
                self.assertEqual(got[0], oracle.correct_weight(plan, world))


class ComparisonOfModes(unittest.TestCase):
    """Point 4."""

    def test_costs_of_both_goals(self):
        for x_count, y_count in SHAPES:
            for seed in range(4):
                world = make_world(seed, x_count, y_count)
                instance = made_instance(world)
                costs = []
                for goal in (0, 1):
                    got = operations.compare_modes(instance, goal)
                    sizes = [oracle.cheapest_quickly(world, mode, goal)[0] for mode in range(4)]
                    self.assertEqual(got, [4] + [oracle.cost(world, size) for size in sizes])
                    self.assertEqual(got[1:], [operations.cheapest_sizes(instance, mode, goal)[0] for mode in range(4)])
                    costs.append(got[1:])
                self.assertLessEqual(costs[0][1], costs[0][2])
                for mode in (0, 1, 3):
                    self.assertLessEqual(costs[1][mode], costs[0][mode])


class Undo(unittest.TestCase):
    """Point 5; test_undo.py has more."""

    def test_state_and_history_after_each_change(self):
        for before in range(10):
            for change in CHANGES:
                instance = made_instance(make_world(1, 2, 2))
                operations.set_weight(instance, 0, 0, 5)
                operations.choose_plan(instance, 1, 1)
                instance.history = instance.history[:before]
                wanted = picture(instance)
                change[0](instance, *change[1:])
                self.assertNotEqual(picture(instance), wanted)
                self.assertEqual(operations.undo(instance), [before])
                self.assertEqual(picture(instance), wanted, change)

    def test_with_ten_the_state_alone(self):
        for change in CHANGES:
            instance = made_instance(make_world(1, 4, 4))
            operations.set_weight(instance, 0, 0, 5)
            operations.choose_plan(instance, 1, 1)
            state, history = picture(instance.state), picture(instance.history)
            self.assertEqual(len(history), 10)
            change[0](instance, *change[1:])
            self.assertEqual(operations.undo(instance), [9])
            self.assertEqual([picture(instance.state), picture(instance.history)], [state, history[:9]], change)


class Ledger(unittest.TestCase):
    """Point 6."""

    def test_counts_of_correct_and_other_reports(self):
        for seed in range(40):
            draw = random.Random(seed)
            world = make_world(seed, 3, 3, spread=3)
            instance = made_instance(world)
            operations.choose_plan_with_errors(instance, draw.choice([0, 50, 90]))
            sent, correct, costs = 0, 0, 0
            for step in range(30):
                if step % 10 == 7:
                    operations.choose_plan(instance, draw.randrange(4), draw.randrange(2))
                operations.set_weight(instance, draw.randrange(3), draw.randrange(3), draw.randrange(3))
                operations.set_prices(instance, draw.randint(1, 9), draw.randint(1, 9))
                told = operations.send_report(instance, draw.randrange(3), draw.randrange(3))
                if told != [-33]:
                    sent, correct, costs = sent + 1, correct + told[0], costs + told[5]
                self.assertEqual(operations.ledger(instance), [sent, correct, costs])
                self.assertLessEqual(correct, sent)


class ErrorsAndQueries(unittest.TestCase):
    """Point 7."""

    def test_queries_leave_everything(self):
        for seed in range(10):
            instance = made_instance(make_world(seed, 2, 3))
            for mode in (0, 1, 2, 3, None):
                if mode is None:
                    operations.drop_plan(instance)
                else:
                    operations.choose_plan(instance, mode, seed % 2)
                operations.set_weight(instance, 0, 0, 1 + seed)
                operations.send_report(instance, 0, 0)
                wanted = picture(instance)
                for query in QUERIES:
                    query[0](instance, *query[1:])
                    self.assertEqual(picture(instance), wanted, query)

    def test_refusals_leave_everything(self):
        instance = made_instance({"x_count": 2, "y_count": 2, "weights": {(0, 0): 5, (1, 1): 3, (0, 1): 9},
                                  "values": {(1, 1): 2}, "x_price": 4, "y_price": 7})
        for calls in (REFUSED_WITHOUT_PLAN, REFUSED):
            for call in calls:
                wanted = picture(instance)
                told = getattr(operations, call[0])(instance, *call[1:])
                self.assertEqual(len(told), 1)
                self.assertLess(told[0], 0, call)
                self.assertEqual(picture(instance), wanted, call)
            operations.choose_plan(instance, 1, 0)

    def test_refused_undo_leaves_everything(self):
        instance = made_instance(make_world(1, 2, 2))
        instance.history = []
        wanted = picture(instance)
        self.assertEqual(operations.undo(instance), [-6])
        self.assertEqual(picture(instance), wanted)

    def test_through_the_desk(self):
        wanted = watched(*FULL)
        for call in REFUSED + SEEN:
            self.assertEqual(watched(*FULL, call), wanted, call)
        wanted = watched(*FULL, ("drop_plan",))
        for call in REFUSED_WITHOUT_PLAN + SEEN:
            self.assertEqual(watched(*FULL, ("drop_plan",), call), wanted, call)

    def test_refused_each_time_in_the_same_way(self):
        for call in REFUSED:
            got = talk(*FULL, call, call)
            self.assertEqual(got[-1], got[-2])
            self.assertEqual(len(got[-1]), 1)
            self.assertLess(got[-1][0], 0, call)


if __name__ == "__main__":
    unittest.main()
