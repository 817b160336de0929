"""Promise 4: change."""

import unittest

from lines import (
    LARGEST_NUMBER, LEAST_NUMBER, LineCase, auction, buy, cancel, change, ended, look, price_made, rests, sell, stop_buy,
    stop_sell, traded, triggered,
)

OUTSIDE_SIZE = (LEAST_NUMBER, -1, 0, 1000001, LARGEST_NUMBER)


class Refused(LineCase):

    def test_none_rests(self):
        self.check(
            (buy(1, 1, 10, 5), [rests(1, 10, 5)]),
            *[(change(number, 10, 5), -1) for number in (LEAST_NUMBER, -1, 0, 2, LARGEST_NUMBER)],
            (cancel(1), [ended(1, 1, 10, 5)]),
            (change(1, 10, 5), -1),
        )

    def test_a_stop_that_waits(self):
        self.check(
            (stop_buy(1, 1, 5, 30), []),
            (stop_sell(2, 2, 5, 30, 20), []),
            (change(1, 30, 5), -1),
            (change(2, 20, 5), -1),
            (change(2, 20, 4), -1),
            (change(2, 21, 5), -1),
            (auction(1), []),
            (change(2, 21, 5), -1),
            (cancel(1), [ended(1, 1, 0, 5)]),
            (cancel(2), [ended(2, 1, 20, 5)]),
        )

    def test_price_out_of_range(self):
        self.check(
            (buy(1, 1, 10, 5), [rests(1, 10, 5)]),
            *[(change(1, price, 5), -1) for price in OUTSIDE_SIZE],
            (look(), (10, 5, 0, 0, 0, 0)),
        )

    def test_amount_out_of_range(self):
        self.check(
            (buy(1, 1, 10, 5), [rests(1, 10, 5)]),
            *[(change(1, 10, amount), -1) for amount in OUTSIDE_SIZE],
            *[(change(1, 11, amount), -1) for amount in OUTSIDE_SIZE],
            (look(), (10, 5, 0, 0, 0, 0)),
        )

    def test_at_the_bounds(self):
        self.check(
            (buy(1, 1, 10, 5), [rests(1, 10, 5)]),
            (change(1, 1, 1), [rests(1, 1, 1)]),
            (change(1, 1000000, 1000000), [rests(1, 1000000, 1000000)]),
            (change(1, 1000000, 1), [rests(1, 1000000, 1)]),
            (change(1, 1, 1000000), [rests(1, 1, 1000000)]),
            (look(), (1, 1000000, 0, 0, 0, 0)),
        )


def two_buyers():
    return [(buy(1, 1, 10, 5), [rests(1, 10, 5)]), (buy(2, 2, 10, 5), [rests(2, 10, 5)])]


class Place(LineCase):

    def test_same_price_and_less_keeps_its_place(self):
        self.check(
            *two_buyers(),
            (change(1, 10, 3), [rests(1, 10, 3)]),
            (look(), (10, 8, 0, 0, 0, 0)),
            (sell(3, 3, 10, 4), [traded(3, 1, 10, 3, 0), traded(3, 2, 10, 1, 4)]),
        )

    def test_same_price_and_as_much_keeps_its_place(self):
        self.check(
            *two_buyers(),
            (change(1, 10, 5), [rests(1, 10, 5)]),
            (sell(3, 3, 10, 6), [traded(3, 1, 10, 5, 0), traded(3, 2, 10, 1, 4)]),
        )

    def test_same_price_and_more_is_the_newest(self):
        self.check(
            *two_buyers(),
            (change(1, 10, 6), [rests(1, 10, 6)]),
            (look(), (10, 11, 0, 0, 0, 0)),
            (sell(3, 3, 10, 6), [traded(3, 2, 10, 5, 0), traded(3, 1, 10, 1, 5)]),
        )

    def test_more_is_more_than_what_is_left(self):
        self.check(
            *two_buyers(),
            (sell(3, 3, 10, 2), [traded(3, 1, 10, 2, 3)]),
            (change(1, 10, 4), [rests(1, 10, 4)]),
            (sell(4, 3, 10, 6), [traded(4, 2, 10, 5, 0), traded(4, 1, 10, 1, 3)]),
        )

    def test_another_price_and_back_is_the_newest(self):
        self.check(
            *two_buyers(),
            (change(1, 9, 5), [rests(1, 9, 5)]),
            (change(1, 10, 5), [rests(1, 10, 5)]),
            (sell(3, 3, 10, 6), [traded(3, 2, 10, 5, 0), traded(3, 1, 10, 1, 4)]),
        )

    def test_another_price_and_less_goes_there(self):
        self.check(
            (sell(1, 1, 20, 5), [rests(1, 20, 5)]),
            (sell(2, 2, 21, 5), [rests(2, 21, 5)]),
            (change(2, 19, 2), [rests(2, 19, 2)]),
            (look(), (0, 0, 19, 2, 0, 0)),
            (change(2, 20, 2), [rests(2, 20, 2)]),
            (buy(3, 3, 20, 6), [traded(3, 1, 20, 5, 0), traded(3, 2, 20, 1, 1)]),
        )

    def test_in_an_auction(self):
        self.check(
            (auction(1), []),
            *two_buyers(),
            (buy(3, 3, 10, 5), [rests(3, 10, 5)]),
            (buy(4, 4, 9, 5), [rests(4, 9, 5)]),
            (change(1, 10, 4), [rests(1, 10, 4)]),
            (change(2, 10, 6), [rests(2, 10, 6)]),
            (change(4, 10, 1), [rests(4, 10, 1)]),
            (sell(5, 5, 10, 15), [rests(5, 10, 15)]),
            (auction(0), [
                traded(1, 5, 10, 4, 11), traded(3, 5, 10, 5, 6), traded(2, 5, 10, 6, 0),
            ]),
            (look(), (10, 1, 0, 0, 10, 0)),
        )

    def test_nothing_trades_in_an_auction(self):
        self.check(
            (auction(1), []),
            (buy(1, 1, 10, 5), [rests(1, 10, 5)]),
            (sell(2, 2, 12, 5), [rests(2, 12, 5)]),
            (sell(3, 1, 12, 5), [rests(3, 12, 5)]),
            (change(1, 15, 7), [rests(1, 15, 7)]),
            (look(), (15, 7, 12, 10, 0, 12)),
            (change(2, 15, 7), [rests(2, 15, 7)]),
            (look(), (15, 7, 12, 5, 0, 15)),
        )


class Comes(LineCase):

    def test_it_trades_and_the_rest_rests(self):
        self.check(
            (sell(1, 1, 20, 5), [rests(1, 20, 5)]),
            (buy(2, 2, 10, 5), [rests(2, 10, 5)]),
            (change(2, 20, 7), [traded(2, 1, 20, 5, 0), rests(2, 20, 2)]),
            (look(), (20, 2, 0, 0, 20, 0)),
        )

    def test_all_of_it_traded(self):
        self.check(
            (sell(1, 1, 20, 5), [rests(1, 20, 5)]),
            (buy(2, 2, 10, 5), [rests(2, 10, 5)]),
            (change(1, 10, 3), [traded(1, 2, 10, 3, 2)]),
            (change(1, 10, 3), -1),
            (look(), (10, 2, 0, 0, 10, 0)),
        )

    def test_the_same_persons_orders_end(self):
        self.check(
            (sell(1, 1, 20, 5), [rests(1, 20, 5)]),
            (sell(2, 2, 21, 5), [rests(2, 21, 5)]),
            (buy(3, 1, 10, 5), [rests(3, 10, 5)]),
            (change(3, 21, 1), [ended(1, 5, 20, 5), traded(3, 2, 21, 1, 4)]),
        )

    def test_one_only_to_rest_comes_as_a_limit_order(self):
        self.check(
            (sell(1, 1, 20, 5), [rests(1, 20, 5)]),
            (buy(2, 2, 10, 5, kind=4), [rests(2, 10, 5)]),
            (change(2, 20, 7), [traded(2, 1, 20, 5, 0), rests(2, 20, 2)]),
        )

    def test_it_triggers_stops(self):
        self.check(
            (sell(1, 1, 20, 5), [rests(1, 20, 5)]),
            (sell(2, 1, 22, 5), [rests(2, 22, 5)]),
            (stop_buy(3, 3, 6, 20), []),
            (stop_buy(4, 4, 1, 22, 23), []),
            (buy(5, 5, 10, 5), [rests(5, 10, 5)]),
            (change(5, 20, 4), [
                traded(5, 1, 20, 4, 1), triggered(3, 20),
                traded(3, 1, 20, 1, 0), traded(3, 2, 22, 5, 0), triggered(4, 22), rests(4, 23, 1),
            ]),
            (look(), (23, 1, 0, 0, 22, 0)),
        )

    def test_it_keeps_its_person_and_its_side(self):
        self.check(
            (sell(1, 7, 20, 5), [rests(1, 20, 5)]),
            (change(1, 25, 9), [rests(1, 25, 9)]),
            (buy(2, 7, 25, 1), [ended(1, 5, 25, 9), rests(2, 25, 1)]),
        )

    def test_after_an_auction_too(self):
        self.check(
            *price_made(100),
            (auction(1), []),
            (buy(1, 1, 10, 5), [rests(1, 10, 5)]),
            (auction(0), []),
            (sell(2, 2, 20, 1), [rests(2, 20, 1)]),
            (change(1, 30, 2), [traded(1, 2, 20, 1, 0), rests(1, 30, 1)]),
        )


if __name__ == "__main__":
    unittest.main()
