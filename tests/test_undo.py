"""undo: after each kind of change, many times over, and when there is nothing to undo."""

import unittest

from talk import last, paired, talk, watched

# An instance with something in each of its parts: 10 calls, 9 changes.
FULL = paired(2, 2, {(0, 0): 5, (1, 1): 3}, {(1, 1): 2}, (4, 7)) + [
    ("choose_plan", 0, 0), ("set_weight", 0, 1, 9), ("send_report", 0, 0), ("send_report", 1, 1), ("undo",),
    ("send_report", 1, 1)]
CHANGES = [
    ("set_weight", 1, 0, 8), ("set_weight", 0, 0, 0), ("set_weight", 0, 0, 5), ("set_value", 0, 0, 9),
    ("set_value", 1, 1, 2), ("set_prices", 99, 1), ("set_prices", 4, 7), ("choose_plan", 0, 0), ("choose_plan", 1, 0),
    ("choose_plan", 2, 1), ("choose_plan", 3, 1), ("choose_plan_with_errors", 0), ("choose_plan_with_errors", 100),
    ("send_report", 0, 0), ("send_report", 1, 1), ("drop_plan",),
]


class EachChange(unittest.TestCase):
    def test_restores_all_that_can_be_seen(self):
        before = watched(*FULL)
        self.assertEqual(before[:5], [[0, 0, 2, 0, 1, 0, 0], [1, 0, 0], [12, 17, 15], [2, 1, 30], [2, 2, 3, 4, 7, 1, 8]])
        for change in CHANGES:
            self.assertEqual(watched(*FULL, change, ("undo",)), before, change)

    def test_without_a_plan(self):
        bare = paired(2, 2, {(0, 0): 5})
        for change in CHANGES[:-3]:
            self.assertEqual(watched(*bare, change, ("undo",)), watched(*bare), change)

    def test_each_change_is_one_also_when_nothing_differs(self):
        for change in CHANGES:
            self.assertEqual(last(*FULL, change, ("summary",))[6], 9, change)
            self.assertEqual(last(*FULL, change, ("undo",)), [8], change)

    def test_two_changes_are_undone_one_by_one(self):
        for first in CHANGES[:-1]:
            for second in (("set_weight", 1, 0, 1), ("send_report", 0, 1), ("drop_plan",)):
                once = watched(*FULL, first)
                self.assertEqual(watched(*FULL, first, second, ("undo",)), once, (first, second))
                self.assertEqual(watched(*FULL, first, second, ("undo",), ("undo",)), watched(*FULL))

    def test_a_dropped_plan_comes_back(self):
        calls = paired(2, 2, {(0, 0): 5, (1, 1): 3}) + [("choose_plan", 2, 1), ("get_plan",), ("drop_plan",), ("undo",)]
        got = talk(*calls, ("get_plan",))
        self.assertEqual(got[-1], got[-4])

    def test_the_ledger_goes_back(self):
        got = talk(*FULL, ("ledger",), ("undo",), ("ledger",), ("undo",), ("ledger",))
        self.assertEqual(got[-5:], [[2, 1, 30], [7], [1, 0, 15], [6], [0, 0, 0]])


class Many(unittest.TestCase):
    def test_ten_at_most(self):
        calls = [("create", 1, 1)] + [("set_weight", 0, 0, weight) for weight in range(1, 14)]
        got = talk(*calls, *[("undo",)] * 12, ("set_weight", 0, 0, 0))
        self.assertEqual(got[14:], [[left] for left in range(9, -1, -1)] + [[-6], [-6], [3]])

    def test_each_of_ten_states(self):
        for steps in range(1, 11):
            calls = [("create", 1, 1)] + [("set_weight", 0, 0, weight) for weight in range(1, 13)]
            self.assertEqual(last(*calls, *[("undo",)] * steps, ("set_weight", 0, 0, 0)), [12 - steps])

    def test_fewer_than_ten_restore_the_history_too(self):
        for count in range(1, 10):
            calls = [("create", 1, 1)] + [("set_weight", 0, 0, weight) for weight in range(1, count + 1)]
            got = talk(*calls, ("set_prices", 2, 2), ("undo",), ("summary",), *[("undo",)] * (count + 1))
            self.assertEqual(got[count + 2], [count])
            self.assertEqual(got[count + 3], [1, 1, 1, 1, 1, 0, count])
            self.assertEqual(got[count + 4:], [[left] for left in range(count - 1, -1, -1)] + [[-6]])

    def test_with_ten_the_oldest_is_lost(self):
        calls = [("create", 1, 1)] + [("set_weight", 0, 0, weight) for weight in range(1, 11)]
        self.assertEqual(talk(*calls, ("summary",), ("set_prices", 2, 2), ("undo",), ("summary",))[-4:],
                         [[1, 1, 1, 1, 1, 0, 10], [0], [9], [1, 1, 1, 1, 1, 0, 9]])
        got = talk(*calls, ("set_prices", 2, 2), *[("undo",)] * 11, ("set_weight", 0, 0, 0))
        self.assertEqual(got[-3:], [[0], [-6], [1]])

    def test_new_changes_after_undo(self):
        got = talk(("create", 1, 1), ("set_weight", 0, 0, 1), ("set_weight", 0, 0, 2), ("undo",),
                   ("set_weight", 0, 0, 3), ("undo",), ("set_weight", 0, 0, 4), ("undo",), ("undo",), ("undo",),
                   ("set_weight", 0, 0, 5))
        self.assertEqual(got[3:], [[1], [1], [1], [1], [1], [0], [-6], [0]])

    def test_an_undo_is_no_change(self):
        got = talk(("create", 1, 1), ("set_weight", 0, 0, 1), ("undo",), ("undo",), ("summary",))
        self.assertEqual(got[2:], [[0], [-6], [1, 1, 0, 1, 1, 0, 0]])


class Nothing(unittest.TestCase):
    def test_no_instance(self):
        self.assertEqual(talk(("undo",), ("create", 5, 1), ("undo",)), [[-11], [-22], [-11]])

    def test_create_is_the_end(self):
        self.assertEqual(talk(("create", 2, 2), ("undo",), ("summary",)), [[0], [-6], [2, 2, 0, 1, 1, 0, 0]])

    def test_create_again_loses_the_history(self):
        got = talk(*FULL, ("create", 2, 1), ("undo",), ("summary",), ("set_weight", 1, 0, 4), ("undo",), ("undo",),
                   ("summary",))
        self.assertEqual(got[-7:], [[0], [-6], [2, 1, 0, 1, 1, 0, 0], [0], [0], [-6], [2, 1, 0, 1, 1, 0, 0]])

    def test_a_refused_create_keeps_the_history(self):
        self.assertEqual(talk(*FULL, ("create", 5, 1), ("undo",))[-2:], [[-22], [7]])

    def test_a_refused_undo_leaves_the_instance(self):
        begun = [("create", 2, 2)]
        self.assertEqual(watched(*begun, ("undo",), ("undo",)), watched(*begun))


if __name__ == "__main__":
    unittest.main()
