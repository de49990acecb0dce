"""The interface as a whole: flat lists, and nothing kept; the history that changes fill."""

import unittest

from pairsend import operations
from pairsend.desk import answers
from pairsend.states import Instance
from talk import flat, paired


class Interface(unittest.TestCase):
    CALLS = flat(paired(2, 2, {(0, 0): 5, (1, 1): 3}) + [("choose_plan", 0, 0), ("get_plan",), ("get_plan",)])
    WANTED = [1, 0, 1, 0, 1, 0, 1, 3, 7, 0, 0, 2, 0, 0, 0, 1, 7, 0, 0, 2, 0, 0, 0, 1]

    def test_flat_list_in_and_out(self):
        got = answers(list(self.CALLS))
        self.assertEqual(got, self.WANTED)
        self.assertIs(type(got), list)
        self.assertTrue(all(type(number) is int for number in got))

    def test_is_reliable_answers_numbers(self):
        got = answers([0, 1, 1, 5, 0, 0, 9])
        self.assertEqual(got, [1, 0, 1, 2, 1, 1])
        self.assertTrue(all(type(number) is int for number in got))

    def test_a_refusal_is_its_code_alone(self):
        self.assertEqual(answers([8, 0, 1, 1, 8, 4, 4, 0, 1, 1, 0, 0]), [1, -11, 1, 0, 1, -6, 1, -22, 1, -2])

    def test_what_is_handed_in_stays(self):
        calls = list(self.CALLS)
        answers(calls)
        self.assertEqual(calls, self.CALLS)

    def test_nothing_is_kept(self):
        self.assertEqual(answers(list(self.CALLS)), answers(list(self.CALLS)))
        self.assertEqual(answers([8]), [1, -11])

    def test_answers_are_lists_of_their_own(self):
        first = answers(list(self.CALLS))
        first.append(7)
        self.assertEqual(answers(list(self.CALLS)), self.WANTED)

    def test_thirty_calls(self):
        self.assertEqual(answers([0, 4, 4] + [4, 1, 0] * 29), [1, 0] + [3, 2, 1, 1] * 29)


class History(unittest.TestCase):
    def begun(self):
        instance = Instance()
        operations.create(instance, 2, 2)
        return instance

    def test_each_change_is_remembered(self):
        instance = self.begun()
        changes = [
            (operations.set_weight, 0, 0, 0), (operations.set_value, 0, 0, 0), (operations.set_prices, 1, 1),
            (operations.choose_plan, 0, 0), (operations.choose_plan_with_errors, 50),
        ]
        self.assertEqual(instance.history, [])
        for count, change in enumerate(changes, 1):
            before = instance.state
            change[0](instance, *change[1:])
            self.assertEqual(len(instance.history), count)
            self.assertIs(instance.history[0], before)

    def test_a_remembered_state_stays_as_it_was(self):
        instance = self.begun()
        operations.set_weight(instance, 0, 1, 5)
        operations.set_weight(instance, 0, 1, 6)
        operations.set_value(instance, 1, 1, 3)
        operations.set_prices(instance, 7, 8)
        operations.choose_plan(instance, 0, 0)
        self.assertEqual([state.weight_of(0, 1) for state in instance.history], [6, 6, 6, 5, 0])
        self.assertEqual([state.value_of(1, 1) for state in instance.history], [3, 3, 0, 0, 0])
        self.assertEqual([state.x_price for state in instance.history], [7, 1, 1, 1, 1])
        self.assertEqual([state.y_price for state in instance.history], [8, 1, 1, 1, 1])
        self.assertEqual([state.plan for state in instance.history], [None] * 5)

    def test_the_ledger_is_empty_and_goes_along_with_changes(self):
        instance = self.begun()
        ledger = [instance.state.sent_count, instance.state.correct_count, instance.state.total_cost]
        self.assertEqual(ledger, [0, 0, 0])
        instance.state.sent_count = 3
        instance.state.correct_count = 2
        instance.state.total_cost = 17
        operations.set_prices(instance, 7, 8)
        ledger = [instance.state.sent_count, instance.state.correct_count, instance.state.total_cost]
        self.assertEqual(ledger, [3, 2, 17])

    def test_at_most_ten_the_oldest_dropped(self):
        instance = self.begun()
        for weight in range(1, 15):
            operations.set_weight(instance, 0, 0, weight)
        self.assertEqual([state.weight_of(0, 0) for state in instance.history], list(range(13, 3, -1)))

    def test_errors_and_queries_are_no_changes(self):
        instance = self.begun()
        operations.set_weight(instance, 0, 0, 4)
        state = instance.state
        operations.set_weight(instance, 2, 0, 1)
        operations.set_weight(instance, 0, 0, 100)
        operations.set_value(instance, 0, 2, 1)
        operations.set_value(instance, 0, 0, 10)
        operations.set_prices(instance, 0, 1)
        operations.choose_plan(instance, 4, 0)
        operations.choose_plan_with_errors(instance, 101)
        operations.create(instance, 5, 5)
        operations.cheapest_sizes(instance, 1, 0)
        operations.cheapest_sizes_with_errors(instance, 50)
        operations.get_plan(instance)
        operations.is_reliable(instance)
        self.assertIs(instance.state, state)
        self.assertEqual(len(instance.history), 1)

    def test_create_loses_the_history(self):
        instance = self.begun()
        operations.set_weight(instance, 0, 0, 4)
        operations.create(instance, 1, 1)
        self.assertEqual(instance.history, [])


if __name__ == "__main__":
    unittest.main()
