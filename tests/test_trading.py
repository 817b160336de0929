"""How orders come and trade: promise 2, with what the document says under Trading."""

import unittest

from lines import BUYS, LineCase, buy, ended, look, order, rests, sell, traded


def market_buy(number, who, amount):
    return buy(number, who, 0, amount, kind=1)


def market_sell(number, who, amount):
    return sell(number, who, 0, amount, kind=1)


class Limit(LineCase):

    def test_partly_traded_then_rests(self):
        self.check(
            (sell(1, 1, 100, 4), [rests(1, 100, 4)]),
            (buy(2, 2, 100, 10), [traded(2, 1, 100, 4, 0), rests(2, 100, 6)]),
            (look(), (100, 6, 0, 0, 100, 0)),
        )

    def test_one_that_rests_keeps_what_is_left(self):
        self.check(
            (sell(1, 1, 100, 9), [rests(1, 100, 9)]),
            (buy(2, 2, 100, 4), [traded(2, 1, 100, 4, 5)]),
            (buy(3, 3, 100, 4), [traded(3, 1, 100, 4, 1)]),
            (look(), (0, 0, 100, 1, 100, 0)),
            (buy(4, 4, 100, 1), [traded(4, 1, 100, 1, 0)]),
            (look(), (0, 0, 0, 0, 100, 0)),
        )

    def test_price_of_the_one_that_rests(self):
        self.check(
            (sell(1, 1, 100, 1), [rests(1, 100, 1)]),
            (buy(2, 2, 150, 1), [traded(2, 1, 100, 1, 0)]),
            (look(), (0, 0, 0, 0, 100, 0)),
            (buy(3, 3, 90, 1), [rests(3, 90, 1)]),
            (sell(4, 4, 50, 1), [traded(4, 3, 90, 1, 0)]),
            (look(), (0, 0, 0, 0, 90, 0)),
        )

    def test_prices_that_are_not_acceptable(self):
        self.check(
            (sell(1, 1, 100, 1), [rests(1, 100, 1)]),
            (buy(2, 2, 99, 1), [rests(2, 99, 1)]),
            (sell(3, 3, 100, 1), [rests(3, 100, 1)]),
            (look(), (99, 1, 100, 2, 0, 0)),
        )

    def test_best_seller_is_the_lowest_then_the_first(self):
        self.check(
            (sell(1, 1, 102, 1), [rests(1, 102, 1)]),
            (sell(2, 2, 100, 1), [rests(2, 100, 1)]),
            (sell(3, 3, 101, 1), [rests(3, 101, 1)]),
            (sell(4, 4, 100, 1), [rests(4, 100, 1)]),
            (sell(5, 5, 103, 1), [rests(5, 103, 1)]),
            (buy(6, 6, 102, 9), [
                traded(6, 2, 100, 1, 0), traded(6, 4, 100, 1, 0), traded(6, 3, 101, 1, 0), traded(6, 1, 102, 1, 0),
                rests(6, 102, 5),
            ]),
            (look(), (102, 5, 103, 1, 102, 0)),
        )

    def test_best_buyer_is_the_highest_then_the_first(self):
        self.check(
            (buy(1, 1, 98, 1), [rests(1, 98, 1)]),
            (buy(9, 2, 100, 1), [rests(9, 100, 1)]),
            (buy(3, 3, 99, 1), [rests(3, 99, 1)]),
            (buy(4, 4, 100, 1), [rests(4, 100, 1)]),
            (buy(5, 5, 97, 1), [rests(5, 97, 1)]),
            (sell(6, 6, 98, 9), [
                traded(6, 9, 100, 1, 0), traded(6, 4, 100, 1, 0), traded(6, 3, 99, 1, 0), traded(6, 1, 98, 1, 0),
                rests(6, 98, 5),
            ]),
            (look(), (97, 1, 98, 5, 98, 0)),
        )

    def test_a_partly_traded_one_stays_first(self):
        self.check(
            (sell(1, 1, 100, 5), [rests(1, 100, 5)]),
            (sell(2, 2, 100, 5), [rests(2, 100, 5)]),
            (buy(3, 3, 100, 2), [traded(3, 1, 100, 2, 3)]),
            (buy(4, 4, 100, 4), [traded(4, 1, 100, 3, 0), traded(4, 2, 100, 1, 4)]),
        )

    def test_what_rests_after_trading_is_behind_its_price(self):
        self.check(
            (buy(1, 1, 100, 1), [rests(1, 100, 1)]),
            (sell(2, 2, 100, 3), [traded(2, 1, 100, 1, 0), rests(2, 100, 2)]),
            (sell(3, 3, 100, 1), [rests(3, 100, 1)]),
            (buy(4, 4, 100, 3), [traded(4, 2, 100, 2, 0), traded(4, 3, 100, 1, 0)]),
        )

    def test_largest_and_least_prices_and_amounts(self):
        self.check(
            (sell(1, 1, 1000000, 1000000), [rests(1, 1000000, 1000000)]),
            (buy(2, 255, 1000000, 1000000), [traded(2, 1, 1000000, 1000000, 0)]),
            (buy(3, 1, 1, 1), [rests(3, 1, 1)]),
            (sell(4, 255, 1, 1000000), [traded(4, 3, 1, 1, 0), rests(4, 1, 999999)]),
            (look(), (0, 0, 1, 999999, 1, 0)),
        )


class SamePerson(LineCase):

    def test_the_one_that_rests_ends_and_the_next_best_is_looked_at(self):
        self.check(
            (sell(1, 7, 100, 3), [rests(1, 100, 3)]),
            (sell(2, 2, 101, 3), [rests(2, 101, 3)]),
            (buy(3, 7, 101, 2), [ended(1, 5, 100, 3), traded(3, 2, 101, 2, 1)]),
            (look(), (0, 0, 101, 1, 101, 0)),
        )

    def test_several_in_the_way(self):
        self.check(
            (buy(1, 7, 100, 3), [rests(1, 100, 3)]),
            (buy(2, 7, 99, 4), [rests(2, 99, 4)]),
            (buy(3, 3, 99, 1), [rests(3, 99, 1)]),
            (buy(4, 7, 98, 5), [rests(4, 98, 5)]),
            (buy(5, 7, 97, 6), [rests(5, 97, 6)]),
            (sell(6, 7, 98, 9), [
                ended(1, 5, 100, 3), ended(2, 5, 99, 4), traded(6, 3, 99, 1, 0), ended(4, 5, 98, 5), rests(6, 98, 8),
            ]),
            (look(), (97, 6, 98, 8, 99, 0)),
        )

    def test_one_behind_stays_when_nothing_is_left_to_trade(self):
        self.check(
            (sell(1, 1, 100, 2), [rests(1, 100, 2)]),
            (sell(2, 7, 100, 2), [rests(2, 100, 2)]),
            (buy(3, 7, 100, 2), [traded(3, 1, 100, 2, 0)]),
            (look(), (0, 0, 100, 2, 100, 0)),
        )

    def test_one_whose_price_is_not_acceptable_stays(self):
        self.check(
            (sell(1, 7, 101, 2), [rests(1, 101, 2)]),
            (buy(2, 7, 100, 2), [rests(2, 100, 2)]),
            (look(), (100, 2, 101, 2, 0, 0)),
        )

    def test_one_that_ends_tells_what_it_has_left_and_moves_no_price(self):
        self.check(
            (sell(1, 7, 100, 5), [rests(1, 100, 5)]),
            (buy(2, 2, 100, 2), [traded(2, 1, 100, 2, 3)]),
            (sell(3, 7, 99, 4), [rests(3, 99, 4)]),
            (buy(4, 7, 99, 1), [ended(3, 5, 99, 4), rests(4, 99, 1)]),
            (look(), (99, 1, 100, 3, 100, 0)),
            (buy(5, 7, 100, 1), [ended(1, 5, 100, 3), rests(5, 100, 1)]),
        )

    def test_own_orders_on_the_same_side_stay(self):
        self.check(
            (buy(1, 7, 100, 5), [rests(1, 100, 5)]),
            (buy(2, 7, 100, 5), [rests(2, 100, 5)]),
            (buy(3, 7, 101, 5), [rests(3, 101, 5)]),
            (look(), (101, 5, 0, 0, 0, 0)),
        )


class Market(LineCase):

    def test_at_any_price_and_the_rest_ends(self):
        self.check(
            (sell(1, 1, 1, 2), [rests(1, 1, 2)]),
            (sell(2, 2, 1000000, 2), [rests(2, 1000000, 2)]),
            (market_buy(3, 3, 5), [traded(3, 1, 1, 2, 0), traded(3, 2, 1000000, 2, 0), ended(3, 2, 0, 1)]),
            (look(), (0, 0, 0, 0, 1000000, 0)),
        )

    def test_a_seller_at_any_price(self):
        self.check(
            (buy(1, 1, 1, 2), [rests(1, 1, 2)]),
            (buy(2, 2, 1000000, 2), [rests(2, 1000000, 2)]),
            (market_sell(3, 3, 5), [traded(3, 2, 1000000, 2, 0), traded(3, 1, 1, 2, 0), ended(3, 2, 0, 1)]),
        )

    def test_all_of_it_traded_tells_no_end(self):
        self.check(
            (sell(1, 1, 10, 5), [rests(1, 10, 5)]),
            (market_buy(2, 2, 3), [traded(2, 1, 10, 3, 2)]),
            (market_buy(3, 2, 2), [traded(3, 1, 10, 2, 0)]),
        )

    def test_none_to_trade_with(self):
        self.check(
            (market_sell(1, 1, 5), [ended(1, 2, 0, 5)]),
            (sell(2, 1, 10, 5), [rests(2, 10, 5)]),
            (market_sell(3, 2, 5), [ended(3, 2, 0, 5)]),
        )

    def test_its_price_is_told_as_0(self):
        self.check((order(1, 1, BUYS, 1, 777, 5, 888), [ended(1, 2, 0, 5)]))

    def test_own_orders_end(self):
        self.check(
            (sell(1, 1, 10, 5), [rests(1, 10, 5)]),
            (sell(2, 2, 11, 1), [rests(2, 11, 1)]),
            (market_buy(3, 1, 5), [ended(1, 5, 10, 5), traded(3, 2, 11, 1, 0), ended(3, 2, 0, 4)]),
            (look(), (0, 0, 0, 0, 11, 0)),
        )


class AtOnce(LineCase):

    def test_what_is_not_traded_ends(self):
        self.check(
            (sell(1, 1, 100, 2), [rests(1, 100, 2)]),
            (sell(2, 2, 102, 2), [rests(2, 102, 2)]),
            (buy(3, 3, 101, 5, kind=2), [traded(3, 1, 100, 2, 0), ended(3, 2, 101, 3)]),
            (look(), (0, 0, 102, 2, 100, 0)),
        )

    def test_nothing_acceptable(self):
        self.check(
            (buy(1, 1, 100, 2), [rests(1, 100, 2)]),
            (sell(2, 2, 101, 5, kind=2), [ended(2, 2, 101, 5)]),
            (look(), (100, 2, 0, 0, 0, 0)),
        )

    def test_all_of_it_traded_tells_no_end(self):
        self.check(
            (buy(1, 1, 100, 2), [rests(1, 100, 2)]),
            (sell(2, 2, 100, 2, kind=2), [traded(2, 1, 100, 2, 0)]),
        )

    def test_own_orders_end(self):
        self.check(
            (buy(1, 1, 100, 2), [rests(1, 100, 2)]),
            (sell(2, 1, 100, 2, kind=2), [ended(1, 5, 100, 2), ended(2, 2, 100, 2)]),
        )


class AllAtOnce(LineCase):

    def test_just_enough(self):
        self.check(
            (sell(1, 1, 100, 2), [rests(1, 100, 2)]),
            (sell(2, 2, 101, 3), [rests(2, 101, 3)]),
            (buy(3, 3, 101, 5, kind=3), [traded(3, 1, 100, 2, 0), traded(3, 2, 101, 3, 0)]),
        )

    def test_more_than_enough(self):
        self.check(
            (sell(1, 1, 100, 2), [rests(1, 100, 2)]),
            (sell(2, 2, 101, 9), [rests(2, 101, 9)]),
            (buy(3, 3, 101, 5, kind=3), [traded(3, 1, 100, 2, 0), traded(3, 2, 101, 3, 6)]),
        )

    def test_one_too_few(self):
        self.check(
            (sell(1, 1, 100, 2), [rests(1, 100, 2)]),
            (sell(2, 2, 101, 3), [rests(2, 101, 3)]),
            (buy(3, 3, 101, 6, kind=3), [ended(3, 3, 101, 6)]),
            (look(), (0, 0, 100, 2, 0, 0)),
        )

    def test_prices_that_are_not_acceptable_do_not_count(self):
        self.check(
            (buy(1, 1, 100, 2), [rests(1, 100, 2)]),
            (buy(2, 2, 99, 3), [rests(2, 99, 3)]),
            (sell(3, 3, 100, 3, kind=3), [ended(3, 3, 100, 3)]),
            (sell(4, 3, 99, 5, kind=3), [traded(4, 1, 100, 2, 0), traded(4, 2, 99, 3, 0)]),
        )

    def test_the_same_persons_do_not_count_and_stay(self):
        self.check(
            (sell(1, 3, 100, 2), [rests(1, 100, 2)]),
            (sell(2, 2, 101, 3), [rests(2, 101, 3)]),
            (buy(3, 3, 101, 4, kind=3), [ended(3, 3, 101, 4)]),
            (look(), (0, 0, 100, 2, 0, 0)),
        )

    def test_the_same_persons_end_on_the_way(self):
        self.check(
            (sell(1, 3, 100, 2), [rests(1, 100, 2)]),
            (sell(2, 2, 101, 3), [rests(2, 101, 3)]),
            (sell(4, 3, 101, 3), [rests(4, 101, 3)]),
            (buy(3, 3, 101, 3, kind=3), [ended(1, 5, 100, 2), traded(3, 2, 101, 3, 0)]),
            (look(), (0, 0, 101, 3, 101, 0)),
        )

    def test_orders_on_its_own_side_do_not_count(self):
        self.check(
            (buy(1, 1, 100, 9), [rests(1, 100, 9)]),
            (buy(2, 2, 100, 5, kind=3), [ended(2, 3, 100, 5)]),
        )

    def test_amounts_of_what_is_left(self):
        self.check(
            (sell(1, 1, 100, 5), [rests(1, 100, 5)]),
            (buy(2, 2, 100, 2), [traded(2, 1, 100, 2, 3)]),
            (buy(3, 3, 100, 4, kind=3), [ended(3, 3, 100, 4)]),
            (buy(4, 3, 100, 3, kind=3), [traded(4, 1, 100, 3, 0)]),
        )


class OnlyToRest(LineCase):

    def test_it_rests(self):
        self.check(
            (sell(1, 1, 100, 2), [rests(1, 100, 2)]),
            (buy(2, 2, 99, 5, kind=4), [rests(2, 99, 5)]),
            (sell(3, 3, 100, 5, kind=4), [rests(3, 100, 5)]),
            (look(), (99, 5, 100, 7, 0, 0)),
            (buy(4, 4, 100, 3), [traded(4, 1, 100, 2, 0), traded(4, 3, 100, 1, 4)]),
        )

    def test_it_ends_when_it_would_trade(self):
        self.check(
            (sell(1, 1, 100, 2), [rests(1, 100, 2)]),
            (buy(2, 2, 100, 5, kind=4), [ended(2, 4, 100, 5)]),
            (buy(3, 2, 101, 5, kind=4), [ended(3, 4, 101, 5)]),
            (look(), (0, 0, 100, 2, 0, 0)),
        )

    def test_a_seller_ends_when_it_would_trade(self):
        self.check(
            (buy(1, 1, 100, 2), [rests(1, 100, 2)]),
            (sell(2, 2, 100, 5, kind=4), [ended(2, 4, 100, 5)]),
            (sell(3, 2, 99, 5, kind=4), [ended(3, 4, 99, 5)]),
            (look(), (100, 2, 0, 0, 0, 0)),
        )

    def test_the_same_persons_best_counts_and_stays(self):
        self.check(
            (sell(1, 2, 100, 2), [rests(1, 100, 2)]),
            (buy(2, 2, 100, 5, kind=4), [ended(2, 4, 100, 5)]),
            (look(), (0, 0, 100, 2, 0, 0)),
        )


if __name__ == "__main__":
    unittest.main()
