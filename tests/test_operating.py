"""list_failures, evaluate_plan, send_report, preview_report, ledger, compare_modes, drop_plan, summary."""

import unittest

from talk import TOP, last, paired, talk

DIAGONAL = {(0, 0): 5, (1, 1): 3}
# y 0 sees x 0 or 1, y 1 sees x 1 or 2, y 2 sees x 2 or 0.
ROUND = {(0, 0): 1, (1, 0): 1, (1, 1): 1, (2, 1): 1, (2, 2): 1, (0, 2): 1}
CHOSEN = paired(2, 2, DIAGONAL) + [("choose_plan", 0, 0)]
NEEDS_PLAN = [("list_failures",), ("evaluate_plan",), ("send_report", 0, 0), ("preview_report", 0, 0), ("drop_plan",)]


class ListFailures(unittest.TestCase):
    def test_none(self):
        self.assertEqual(last(*CHOSEN, ("list_failures",)), [0])

    def test_the_lighter_pair_fails_in_mode_0(self):
        for weight, wanted in ((2, [1, 0, 1]), (3, [1, 1, 1]), (4, [1, 1, 1])):
            self.assertEqual(last(*CHOSEN, ("set_weight", 0, 1, weight), ("list_failures",)), wanted)

    def test_the_later_pair_fails_in_the_other_modes(self):
        # However heavy it is: the first pair is decoded.
        for mode in (1, 2, 3):
            calls = paired(2, 2, {(0, 0): 1}) + [("choose_plan", mode, 0), ("set_weight", 1, 0, 99)]
            self.assertEqual(last(*calls, ("list_failures",)), [1, 1, 0])

    def test_pairs_by_x_and_then_by_y(self):
        weights = {(2, 1): 1, (2, 0): 1, (1, 2): 1, (1, 0): 2, (0, 2): 1, (0, 1): 9}
        calls = [("create", 3, 3), ("choose_plan", 0, 0)] + paired(3, 3, weights)[1:]
        self.assertEqual(last(*calls, ("list_failures",)), [5, 0, 2, 1, 0, 1, 2, 2, 0, 2, 1])

    def test_the_same_value_is_enough_for_goal_1(self):
        calls = paired(2, 2, DIAGONAL) + [("choose_plan", 0, 1), ("set_weight", 0, 1, 1)]
        self.assertEqual(last(*calls, ("list_failures",)), [0])
        self.assertEqual(last(*calls, ("set_value", 0, 1, 7), ("list_failures",)), [1, 0, 1])
        self.assertEqual(last(*calls, ("set_value", 0, 0, 7), ("list_failures",)), [2, 0, 1, 1, 1])

    def test_impossible_pairs_are_not_listed(self):
        self.assertEqual(last(*CHOSEN, ("set_weight", 0, 1, 2), ("set_weight", 0, 1, 0), ("list_failures",)), [0])
        self.assertEqual(talk(("create", 4, 4), ("choose_plan", 2, 1), ("list_failures",))[-1], [0])


class EvaluatePlan(unittest.TestCase):
    def test_all_correct(self):
        self.assertEqual(last(*CHOSEN, ("evaluate_plan",)), [8, 8, 3])

    def test_the_weight_of_the_failures_is_missing(self):
        self.assertEqual(last(*CHOSEN, ("set_weight", 0, 1, 2), ("evaluate_plan",)), [8, 10, 3])
        self.assertEqual(last(*CHOSEN, ("set_weight", 0, 1, 99), ("evaluate_plan",)), [104, 107, 3])

    def test_no_possible_pair(self):
        self.assertEqual(last(("create", 2, 2), ("choose_plan", 0, 0), ("evaluate_plan",)), [0, 0, 2])

    def test_the_present_prices_count(self):
        self.assertEqual(last(*CHOSEN, ("set_prices", 10, 7), ("evaluate_plan",)), [8, 8, 24])
        calls = paired(3, 3, ROUND, None, (2, 1)) + [("choose_plan", 1, 0)]
        self.assertEqual(last(*calls, ("evaluate_plan",)), [6, 6, 6])
        self.assertEqual(last(*calls, ("set_prices", 10, 7), ("evaluate_plan",)), [6, 6, 34])

    def test_mode_3_pays_for_x_alone(self):
        calls = paired(2, 2, DIAGONAL, None, (5, 99)) + [("choose_plan", 3, 0)]
        self.assertEqual(last(*calls, ("evaluate_plan",)), [8, 8, 5])

    def test_a_class_that_does_not_occur_costs_nothing(self):
        # The codes of mode 2 stand for every class, but one class alone is in the list.
        calls = paired(4, 4, {(x, 0): 1 for x in range(4)}, None, (2, 3)) + [("choose_plan", 2, 0)]
        self.assertEqual(last(*calls, ("evaluate_plan",)), [4, 4, 11])

    def test_a_plan_with_errors(self):
        calls = paired(2, 2, {(0, 0): 60, (1, 1): 40})
        self.assertEqual(last(*calls, ("choose_plan_with_errors", 60), ("evaluate_plan",)), [60, 100, 2])
        self.assertEqual(last(*calls, ("choose_plan_with_errors", 61), ("evaluate_plan",)), [100, 100, 3])


class Reports(unittest.TestCase):
    """Each report is previewed and sent; the answers are the same."""

    def report(self, calls, x, y):
        got = talk(*calls, ("preview_report", x, y), ("send_report", x, y))
        self.assertEqual(got[-1], got[-2])
        return got[-1]

    def test_mode_0(self):
        self.assertEqual(self.report(CHOSEN, 0, 0), [1, 0, 0, 0, 0, 3])
        self.assertEqual(self.report(CHOSEN, 1, 1), [1, 0, 1, 1, 1, 3])

    def test_mode_0_decodes_the_heaviest_and_then_the_earliest(self):
        for weight, wanted in ((2, [1, 0, 1, 1, 1, 3]), (3, [0, 0, 1, 0, 1, 3]), (4, [0, 0, 1, 0, 1, 3])):
            self.assertEqual(self.report(CHOSEN + [("set_weight", 0, 1, weight)], 1, 1), wanted)
        for weight, wanted in ((2, [0, 0, 1, 1, 1, 3]), (3, [1, 0, 1, 0, 1, 3]), (4, [1, 0, 1, 0, 1, 3])):
            self.assertEqual(self.report(CHOSEN + [("set_weight", 0, 1, weight)], 0, 1), wanted)

    def test_mode_0_also_y_must_be_right(self):
        calls = paired(1, 2, {(0, 0): 5}) + [("choose_plan", 0, 0), ("set_weight", 0, 1, 1)]
        self.assertEqual(self.report(calls, 0, 1), [0, 0, 0, 0, 0, 2])

    def test_mode_1_takes_the_code_of_the_class(self):
        calls = paired(3, 3, ROUND, None, (2, 1)) + [("choose_plan", 1, 0)]
        self.assertEqual(self.report(calls, 1, 1), [1, 1, 0, 1, 1, 6])
        self.assertEqual(self.report(calls, 2, 1), [1, 0, 0, 2, 1, 6])
        self.assertEqual(self.report(calls, 2, 2), [1, 1, 1, 2, 2, 6])
        self.assertEqual(self.report(calls, 0, 2), [1, 0, 1, 0, 2, 6])

    def test_mode_1_knows_y_and_decodes_the_first(self):
        calls = paired(2, 2, DIAGONAL) + [("choose_plan", 1, 0), ("set_weight", 1, 0, 9)]
        self.assertEqual(self.report(calls, 1, 0), [0, 0, 0, 0, 0, 2])
        self.assertEqual(self.report(calls, 1, 1), [1, 0, 0, 1, 1, 2])

    def test_mode_2_tells_the_class(self):
        calls = paired(2, 2, DIAGONAL, None, (5, 1)) + [("choose_plan", 2, 0)]
        self.assertEqual(self.report(calls, 0, 0), [1, 0, 0, 0, 0, 7])
        self.assertEqual(self.report(calls, 1, 1), [1, 0, 1, 1, 1, 7])

    def test_mode_2_needs_the_x_symbol_alone(self):
        calls = paired(2, 2, DIAGONAL, None, (1, 5)) + [("choose_plan", 2, 0)]
        self.assertEqual(self.report(calls, 1, 1), [1, 1, 0, 1, 1, 7])
        self.assertEqual(self.report(calls + [("set_weight", 1, 0, 1)], 1, 1), [1, 1, 0, 1, 0, 7])

    def test_mode_3(self):
        weights = {(0, 0): 1, (1, 1): 1, (2, 1): 1}
        calls = paired(3, 2, weights, {(1, 1): 1, (2, 1): 1}, (4, 9))
        self.assertEqual(self.report(calls + [("choose_plan", 3, 0)], 2, 1), [1, 1, 0, 2, 1, 8])
        self.assertEqual(self.report(calls + [("choose_plan", 3, 0)], 1, 1), [1, 0, 0, 1, 1, 8])

    def test_goal_1_needs_the_value_alone(self):
        weights = {(0, 0): 1, (1, 1): 1, (2, 1): 1}
        calls = paired(3, 2, weights, {(1, 1): 1, (2, 1): 1}, (4, 9)) + [("choose_plan", 3, 1)]
        self.assertEqual(self.report(calls, 2, 1), [1, 0, 0, 1, 1, 4])
        self.assertEqual(self.report(calls + [("set_value", 2, 1, 2)], 2, 1), [0, 0, 0, 1, 1, 4])

    def test_every_refusal(self):
        for name in ("send_report", "preview_report"):
            self.assertEqual(last((name, 0, 0)), [-11])
            for x, y in ((2, 0), (0, 2), (TOP, 0), (0, TOP), (2, 2)):
                self.assertEqual(last(*CHOSEN, (name, x, y)), [-2])
            self.assertEqual(last(*paired(2, 2, DIAGONAL), (name, 0, 0)), [-6])
            for x, y in ((0, 1), (1, 0)):
                self.assertEqual(last(*CHOSEN, (name, x, y)), [-33])
            self.assertEqual(last(*CHOSEN, ("set_weight", 0, 0, 0), (name, 0, 0)), [-33])

    def test_refusals_in_their_order(self):
        for name in ("send_report", "preview_report"):
            got = talk((name, 2, 2), ("create", 2, 2), (name, 2, 2), (name, 0, 0), ("choose_plan", 0, 0),
                       (name, 2, 2), (name, 0, 0), ("set_weight", 0, 0, 1), (name, 0, 0))
            self.assertEqual(got, [[-11], [0], [-2], [-6], [2], [-2], [-33], [0], [1, 0, 0, 0, 0, 2]])


class Ledger(unittest.TestCase):
    def test_begins_with_zeros(self):
        self.assertEqual(last(("create", 2, 2), ("ledger",)), [0, 0, 0])

    def test_correct_and_other_reports(self):
        got = talk(*CHOSEN, ("send_report", 0, 0), ("ledger",), ("set_weight", 0, 1, 9), ("send_report", 1, 1),
                   ("ledger",), ("send_report", 0, 1), ("ledger",))
        self.assertEqual(got[4:], [[1, 0, 0, 0, 0, 3], [1, 1, 3], [0], [0, 0, 1, 0, 1, 3], [2, 1, 6],
                                   [1, 0, 1, 0, 1, 3], [3, 2, 9]])

    def test_a_preview_is_not_recorded(self):
        got = talk(*CHOSEN, ("preview_report", 1, 1), ("ledger",), ("summary",))
        self.assertEqual(got[-2:], [[0, 0, 0], [2, 2, 2, 1, 1, 1, 3]])

    def test_costs_as_they_were_when_sent(self):
        got = talk(*CHOSEN, ("send_report", 0, 0), ("set_prices", 2, 5), ("ledger",), ("send_report", 0, 0),
                   ("ledger",))
        self.assertEqual(got[-3:], [[1, 1, 3], [1, 0, 0, 0, 0, 12], [2, 2, 15]])

    def test_correct_as_it_was_when_sent(self):
        got = talk(*CHOSEN, ("send_report", 1, 1), ("set_weight", 0, 1, 9), ("preview_report", 1, 1), ("ledger",),
                   ("drop_plan",), ("ledger",), ("choose_plan", 3, 0), ("ledger",))
        self.assertEqual(got[-5:], [[1, 1, 3], [0], [1, 1, 3], [2], [1, 1, 3]])

    def test_refused_reports_are_not_recorded(self):
        got = talk(*CHOSEN, ("send_report", 2, 0), ("send_report", 1, 0), ("drop_plan",), ("send_report", 0, 0),
                   ("ledger",))
        self.assertEqual(got[-5:], [[-2], [-33], [0], [-6], [0, 0, 0]])

    def test_create_empties_it(self):
        self.assertEqual(last(*CHOSEN, ("send_report", 0, 0), ("create", 2, 2), ("ledger",)), [0, 0, 0])


class CompareModes(unittest.TestCase):
    def test_both_goals(self):
        got = talk(*paired(2, 2, DIAGONAL, {(1, 1): 1}), ("compare_modes", 0), ("compare_modes", 1))
        self.assertEqual(got[4:], [[4, 3, 2, 3, 1], [4, 3, 2, 3, 1]])
        got = talk(*paired(2, 2, DIAGONAL), ("compare_modes", 1))
        self.assertEqual(got[3:], [[4, 2, 2, 2, 1]])

    def test_the_present_prices_count(self):
        self.assertEqual(last(*paired(2, 2, DIAGONAL, None, (20, 9)), ("compare_modes", 0)), [4, 38, 29, 38, 20])

    def test_no_possible_pair(self):
        self.assertEqual(last(("create", 3, 4), ("compare_modes", 0)), [4, 2, 2, 2, 1])

    def test_goal_out_of_range(self):
        for goal in (2, TOP):
            self.assertEqual(last(("create", 2, 2), ("compare_modes", goal)), [-22])
            self.assertEqual(last(("compare_modes", goal)), [-11])

    def test_takes_no_plan(self):
        self.assertEqual(last(("create", 2, 2), ("compare_modes", 0), ("get_plan",)), [-6])
        self.assertEqual(last(*CHOSEN, ("compare_modes", 1), ("get_plan",)), [0, 0, 2, 0, 0, 0, 1])


class DropPlan(unittest.TestCase):
    def test_returns_the_mode_and_removes_the_plan(self):
        for mode in range(4):
            for goal in (0, 1):
                got = talk(("create", 2, 2), ("choose_plan", mode, goal), ("drop_plan",), ("get_plan",),
                           ("is_reliable",), ("drop_plan",))
                self.assertEqual(got[2:], [[mode], [-6], [-6], [-6]])

    def test_all_that_needs_a_plan_refuses(self):
        for call in NEEDS_PLAN:
            self.assertEqual(last(*paired(2, 2, DIAGONAL), call), [-6])
            self.assertEqual(last(*CHOSEN, ("drop_plan",), call), [-6])
            self.assertEqual(last(call), [-11])

    def test_leaves_the_rest(self):
        got = talk(*CHOSEN, ("send_report", 0, 0), ("drop_plan",), ("ledger",), ("summary",), ("set_weight", 0, 0, 1))
        self.assertEqual(got[-3:], [[1, 1, 3], [2, 2, 2, 1, 1, 0, 5], [5]])


class Summary(unittest.TestCase):
    def test_after_create(self):
        self.assertEqual(last(("create", 3, 4), ("summary",)), [3, 4, 0, 1, 1, 0, 0])

    def test_no_instance(self):
        self.assertEqual(talk(("summary",), ("ledger",)), [[-11], [-11]])

    def test_counts_possible_pairs_alone(self):
        got = talk(*paired(2, 3, {(0, 0): 5, (0, 2): 99, (1, 1): 1}, {(1, 0): 9}), ("summary",),
                   ("set_weight", 0, 2, 0), ("summary",))
        self.assertEqual(got[5::2], [[2, 3, 3, 1, 1, 0, 4], [2, 3, 2, 1, 1, 0, 5]])

    def test_prices(self):
        self.assertEqual(last(("create", 1, 2), ("set_prices", 98, 7), ("summary",)), [1, 2, 0, 98, 7, 0, 1])

    def test_plan_state(self):
        for mode in range(4):
            for goal in (0, 1):
                self.assertEqual(last(("create", 1, 2), ("choose_plan", mode, goal), ("summary",)),
                                 [1, 2, 0, 1, 1, mode + 1, 1])
        self.assertEqual(last(("create", 1, 2), ("choose_plan_with_errors", 3), ("summary",)), [1, 2, 0, 1, 1, 1, 1])
        self.assertEqual(last(("create", 1, 2), ("choose_plan", 3, 0), ("drop_plan",), ("summary",)),
                         [1, 2, 0, 1, 1, 0, 2])

    def test_history_length(self):
        got = talk(("create", 1, 1), *[("set_weight", 0, 0, 1), ("summary",)] * 12)
        self.assertEqual([answer[6] for answer in got[2::2]], [1, 2, 3, 4, 5, 6, 7, 8, 9, 10, 10, 10])


if __name__ == "__main__":
    unittest.main()
