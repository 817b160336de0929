"""Promise 1, and the form of the list handed in and of the list given back."""

import contextlib
import io
import unittest

from lines import LineCase, answers, auction, buy, cancel, change, joined, look, order, rests, sell, stop_buy


class Watched(list):
    """A list that fails when it is changed, if only for a while."""

    def refuse(self, *_, **__):
        raise AssertionError("what was handed in is being changed")

    __setitem__ = __delitem__ = __iadd__ = __imul__ = refuse
    append = extend = insert = pop = remove = clear = sort = reverse = refuse


A_LINE = [
    look(), buy(1, 1, 10, 5), sell(2, 2, 10, 3), stop_buy(3, 3, 4, 10, 12), auction(1), sell(4, 2, 9, 9),
    look(), change(1, 11, 7), auction(0), cancel(4), cancel(99), order(5, 0, 0, 0, 1, 1, 1), look(),
]

A_LINES_ANSWER = [
    7, 0, 0, 0, 0, 0, 0, 0,
    7, 1, 2, 1, 0, 10, 5, 0,
    7, 1, 1, 2, 1, 10, 3, 2,
    13, 2, 4, 3, 0, 10, 0, 0, 2, 3, 0, 12, 4, 0,
    1, 0,
    7, 1, 2, 4, 0, 9, 9, 0,
    7, 0, 12, 4, 9, 9, 10, 10,
    7, 1, 2, 1, 0, 11, 7, 0,
    13, 2, 1, 3, 4, 9, 4, 5, 1, 1, 4, 9, 5, 0,
    1, -1,
    1, -1,
    1, -1,
    7, 0, 11, 2, 0, 0, 9, 0,
]


class NewBook(LineCase):

    def test_nothing_rests_and_no_price(self):
        self.check((look(), (0, 0, 0, 0, 0, 0)))

    def test_it_is_no_auction(self):
        self.check((auction(0), -1), (auction(1), []))

    def test_nothing_to_cancel_or_change(self):
        self.check((cancel(1), -1), (change(1, 1, 1), -1))

    def test_no_latest_price_triggers_nothing(self):
        self.check((stop_buy(1, 1, 1, 1), []), (look(), (0, 0, 0, 0, 0, 0)))


class Form(unittest.TestCase):

    def test_empty_list(self):
        self.assertEqual(answers([]), [])

    def test_whole_answer_number_by_number(self):
        self.assertEqual(answers(joined(A_LINE)), A_LINES_ANSWER)

    def test_answer_is_a_list_of_ints(self):
        told = answers(joined(A_LINE))
        self.assertIs(type(told), list)
        self.assertEqual({type(number) for number in told}, {int})

    def test_empty_answer_is_a_new_list(self):
        calls = []
        told = answers(calls)
        self.assertIs(type(told), list)
        self.assertIsNot(told, calls)

    def test_same_list_twice_gives_the_same(self):
        calls = joined(A_LINE)
        first = answers(calls)
        first_copy = list(first)
        self.assertEqual(answers(calls), first_copy)
        self.assertEqual(first, first_copy)

    def test_nothing_is_kept_from_another_list(self):
        answers(joined([buy(1, 1, 10, 5), sell(2, 2, 10, 5), auction(1), buy(3, 3, 7, 7)]))
        self.assertEqual(answers(look()), [7, 0, 0, 0, 0, 0, 0, 0])
        self.assertEqual(answers(auction(0)), [1, -1])
        self.assertEqual(answers(cancel(3)), [1, -1])

    def test_list_handed_in_stays_as_it_was(self):
        calls = joined(A_LINE)
        copy = list(calls)
        answers(calls)
        self.assertEqual(calls, copy)

    def test_list_handed_in_is_not_changed_for_a_while_either(self):
        self.assertEqual(answers(Watched(joined(A_LINE))), A_LINES_ANSWER)

    def test_answer_is_the_askers_own(self):
        calls = joined(A_LINE)
        answers(calls).clear()
        self.assertEqual(answers(calls), A_LINES_ANSWER)

    def test_any_call_may_come_first(self):
        for call, told in [
            (buy(1, 1, 2, 3), [7, 1, 2, 1, 0, 2, 3, 0]), (cancel(1), [1, -1]), (change(1, 1, 1), [1, -1]),
            (auction(1), [1, 0]), (auction(0), [1, -1]), (look(), [7, 0, 0, 0, 0, 0, 0, 0]),
        ]:
            with self.subTest(call=call):
                self.assertEqual(answers(call), told)

    def test_nothing_is_printed(self):
        with contextlib.redirect_stdout(io.StringIO()) as printed, contextlib.redirect_stderr(printed):
            answers(joined(A_LINE))
        self.assertEqual(printed.getvalue(), "")


class Refusals(LineCase):

    def test_refused_calls_leave_the_book_as_it_was(self):
        steps = [
            (buy(1, 1, 10, 5), [rests(1, 10, 5)]),
            (sell(2, 2, 12, 4), [rests(2, 12, 4)]),
        ]
        for refused in [
            buy(1, 2, 12, 1), sell(1, 3, 10, 1), sell(3, 256, 10, 1), sell(3, 3, 10, 0), sell(3, 3, 10, 1, kind=7),
            change(1, 0, 5), change(2, 10, 1000001), change(3, 10, 1), cancel(3), auction(0),
        ]:
            steps.append((refused, -1))
            steps.append((look(), (10, 5, 12, 4, 0, 0)))
        self.check(*steps)


if __name__ == "__main__":
    unittest.main()
