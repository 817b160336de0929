"""Promise 3: cancel."""

import unittest

from lines import (
    LARGEST_NUMBER, LEAST_NUMBER, LineCase, auction, buy, cancel, ended, look, price_made, rests, sell, stop_buy,
    stop_sell, traded,
)


class Cancel(LineCase):

    def test_one_that_rests(self):
        self.check(
            (buy(1, 1, 10, 5), [rests(1, 10, 5)]),
            (sell(2, 2, 20, 6), [rests(2, 20, 6)]),
            (cancel(1), [ended(1, 1, 10, 5)]),
            (look(), (0, 0, 20, 6, 0, 0)),
            (cancel(2), [ended(2, 1, 20, 6)]),
            (look(), (0, 0, 0, 0, 0, 0)),
        )

    def test_one_in_the_middle(self):
        self.check(
            (sell(1, 1, 20, 1), [rests(1, 20, 1)]),
            (sell(2, 2, 20, 1), [rests(2, 20, 1)]),
            (sell(3, 3, 20, 1), [rests(3, 20, 1)]),
            (cancel(2), [ended(2, 1, 20, 1)]),
            (look(), (0, 0, 20, 2, 0, 0)),
            (buy(4, 4, 20, 2), [traded(4, 1, 20, 1, 0), traded(4, 3, 20, 1, 0)]),
        )

    def test_what_is_left_is_told(self):
        self.check(
            (buy(1, 1, 10, 5), [rests(1, 10, 5)]),
            (sell(2, 2, 10, 3), [traded(2, 1, 10, 3, 2)]),
            (cancel(1), [ended(1, 1, 10, 2)]),
        )

    def test_one_that_waits(self):
        self.check(
            (stop_buy(1, 1, 5, 30), []),
            (stop_sell(2, 2, 6, 30), []),
            (stop_buy(3, 3, 7, 30, 40), []),
            (stop_sell(4, 4, 8, 30, 20), []),
            (cancel(3), [ended(3, 1, 40, 7)]),
            (cancel(1), [ended(1, 1, 0, 5)]),
            (cancel(4), [ended(4, 1, 20, 8)]),
            (cancel(2), [ended(2, 1, 0, 6)]),
            *price_made(30),
        )

    def test_the_price_a_stop_was_handed_in_with_is_not_told(self):
        self.check(([1, 1, 1, 0, 5, 77, 5, 30], []), (cancel(1), [ended(1, 1, 0, 5)]))

    def test_none_with_this_number(self):
        self.check(
            (buy(1, 1, 10, 5), [rests(1, 10, 5)]),
            *[(cancel(number), -1) for number in (LEAST_NUMBER, -1, 0, 2, LARGEST_NUMBER)],
            (look(), (10, 5, 0, 0, 0, 0)),
        )

    def test_one_that_is_gone(self):
        self.check(
            (buy(1, 1, 10, 5), [rests(1, 10, 5)]),
            (cancel(1), [ended(1, 1, 10, 5)]),
            (cancel(1), -1),
            (buy(2, 1, 10, 5, kind=2), [ended(2, 2, 10, 5)]),
            (cancel(2), -1),
            *price_made(10, number=3),
            (cancel(3), -1),
            (cancel(4), -1),
        )

    def test_in_an_auction(self):
        self.check(
            (auction(1), []),
            (buy(1, 1, 10, 5), [rests(1, 10, 5)]),
            (sell(2, 2, 9, 5), [rests(2, 9, 5)]),
            (stop_buy(3, 3, 5, 9), []),
            (cancel(2), [ended(2, 1, 9, 5)]),
            (cancel(3), [ended(3, 1, 0, 5)]),
            (look(), (10, 5, 0, 0, 0, 0)),
            (auction(0), []),
        )

    def test_the_largest_number(self):
        self.check(
            (buy(LARGEST_NUMBER, 1, 10, 5), [rests(LARGEST_NUMBER, 10, 5)]),
            (cancel(LARGEST_NUMBER), [ended(LARGEST_NUMBER, 1, 10, 5)]),
        )


if __name__ == "__main__":
    unittest.main()
