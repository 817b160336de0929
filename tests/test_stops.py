"""Stops: how they wait, are triggered, told and done one after another."""

import unittest

from lines import (
    LineCase, auction, buy, cancel, change, ended, look, price_made, rests, sell, stop_buy, stop_sell, traded, triggered,
)


class Triggers(LineCase):

    def test_without_a_latest_price_none_is_triggered(self):
        self.check(
            (buy(1, 1, 10, 5), [rests(1, 10, 5)]),
            (sell(2, 2, 20, 5), [rests(2, 20, 5)]),
            (stop_buy(3, 3, 1, 1), []),
            (stop_sell(4, 4, 1, 1000000), []),
            (stop_buy(5, 5, 1, 1, 30), []),
            (stop_sell(6, 6, 1, 1000000, 5), []),
            (look(), (10, 5, 20, 5, 0, 0)),
        )

    def test_a_buyers_stop_by_the_latest_price(self):
        for trigger, meets in [(99, True), (100, True), (101, False)]:
            with self.subTest(trigger=trigger):
                told = [triggered(5, 100), ended(5, 2, 0, 3)] if meets else []
                self.check(*price_made(100), (stop_buy(5, 5, 3, trigger), told))

    def test_a_sellers_stop_by_the_latest_price(self):
        for trigger, meets in [(101, True), (100, True), (99, False)]:
            with self.subTest(trigger=trigger):
                told = [triggered(5, 100), ended(5, 2, 0, 3)] if meets else []
                self.check(*price_made(100), (stop_sell(5, 5, 3, trigger), told))

    def test_a_buyers_stop_by_a_later_trade(self):
        self.check(
            *price_made(100),
            (stop_buy(5, 5, 3, 105), []),
            (sell(1, 1, 104, 1), [rests(1, 104, 1)]),
            (sell(2, 1, 105, 2), [rests(2, 105, 2)]),
            (sell(3, 1, 106, 9), [rests(3, 106, 9)]),
            (buy(4, 2, 104, 1), [traded(4, 1, 104, 1, 0)]),
            (buy(4, 2, 105, 1), [
                traded(4, 2, 105, 1, 1), triggered(5, 105), traded(5, 2, 105, 1, 0), traded(5, 3, 106, 2, 7),
            ]),
            (look(), (0, 0, 106, 7, 106, 0)),
        )

    def test_a_sellers_stop_by_a_later_trade(self):
        self.check(
            *price_made(100),
            (stop_sell(5, 5, 3, 95), []),
            (buy(1, 1, 96, 1), [rests(1, 96, 1)]),
            (buy(2, 1, 95, 2), [rests(2, 95, 2)]),
            (buy(3, 1, 94, 9), [rests(3, 94, 9)]),
            (sell(4, 2, 96, 1), [traded(4, 1, 96, 1, 0)]),
            (sell(4, 2, 95, 1), [
                traded(4, 2, 95, 1, 1), triggered(5, 95), traded(5, 2, 95, 1, 0), traded(5, 3, 94, 2, 7),
            ]),
            (look(), (94, 7, 0, 0, 94, 0)),
        )

    def test_only_the_last_trade_of_an_order_counts(self):
        self.check(
            *price_made(100),
            (stop_sell(5, 5, 3, 98), []),
            (sell(1, 1, 97, 1), [rests(1, 97, 1)]),
            (sell(2, 1, 99, 1), [rests(2, 99, 1)]),
            (buy(3, 2, 99, 2), [traded(3, 1, 97, 1, 0), traded(3, 2, 99, 1, 0)]),
            (cancel(5), [ended(5, 1, 0, 3)]),
        )

    def test_the_rest_of_an_order_is_told_before_the_stop(self):
        self.check(
            (sell(1, 1, 100, 1), [rests(1, 100, 1)]),
            (stop_sell(2, 2, 2, 100), []),
            (buy(3, 3, 100, 5), [
                traded(3, 1, 100, 1, 0), rests(3, 100, 4), triggered(2, 100), traded(2, 3, 100, 2, 2),
            ]),
        )

    def test_market_at_once_and_all_at_once_orders_trigger(self):
        for kind, price, end in [(1, 0, [ended(3, 2, 0, 4)]), (2, 100, [ended(3, 2, 100, 4)])]:
            with self.subTest(kind=kind):
                self.check(
                    (sell(1, 1, 100, 1), [rests(1, 100, 1)]),
                    (stop_sell(2, 2, 2, 100, 90), []),
                    (buy(3, 3, price, 5, kind=kind),
                     [traded(3, 1, 100, 1, 0)] + end + [triggered(2, 100), rests(2, 90, 2)]),
                )
        self.check(
            (sell(1, 1, 100, 1), [rests(1, 100, 1)]),
            (stop_sell(2, 2, 2, 100, 90), []),
            (buy(3, 3, 100, 1, kind=3), [traded(3, 1, 100, 1, 0), triggered(2, 100), rests(2, 90, 2)]),
        )


class Kinds(LineCase):

    def test_a_stop_comes_as_a_market_order(self):
        self.check(
            *price_made(100),
            (buy(1, 1, 3, 2), [rests(1, 3, 2)]),
            (stop_sell(2, 2, 5, 100), [triggered(2, 100), traded(2, 1, 3, 2, 0), ended(2, 2, 0, 3)]),
            (look(), (0, 0, 0, 0, 3, 0)),
        )

    def test_a_stop_with_a_limit_comes_as_a_limit_order(self):
        self.check(
            *price_made(100),
            (sell(1, 1, 110, 2), [rests(1, 110, 2)]),
            (sell(2, 1, 112, 2), [rests(2, 112, 2)]),
            (stop_buy(3, 3, 5, 100, 111), [triggered(3, 100), traded(3, 1, 110, 2, 0), rests(3, 111, 3)]),
            (look(), (111, 3, 112, 2, 110, 0)),
        )

    def test_a_stops_limit_may_lie_on_either_side_of_its_trigger(self):
        self.check(
            *price_made(100),
            (stop_buy(1, 1, 5, 90, 80), [triggered(1, 100), rests(1, 80, 5)]),
            (stop_sell(2, 2, 5, 110, 120), [triggered(2, 100), rests(2, 120, 5)]),
            (look(), (80, 5, 120, 5, 100, 0)),
        )

    def test_the_same_persons_orders_end(self):
        self.check(
            *price_made(100),
            (sell(1, 3, 101, 2), [rests(1, 101, 2)]),
            (sell(2, 1, 102, 2), [rests(2, 102, 2)]),
            (stop_buy(3, 3, 1, 100), [triggered(3, 100), ended(1, 5, 101, 2), traded(3, 2, 102, 1, 1)]),
        )

    def test_what_waits_is_not_traded_with_and_not_looked_at(self):
        self.check(
            (stop_sell(1, 1, 5, 10, 20), []),
            (look(), (0, 0, 0, 0, 0, 0)),
            (buy(2, 2, 30, 5, kind=4), [rests(2, 30, 5)]),
            (buy(3, 3, 30, 5, kind=3), [ended(3, 3, 30, 5)]),
            (look(), (30, 5, 0, 0, 0, 0)),
        )

    def test_a_stop_that_rests_is_the_newest_of_its_price(self):
        self.check(
            (stop_buy(1, 1, 1, 100, 90), []),
            (buy(2, 2, 90, 1), [rests(2, 90, 1)]),
            (sell(3, 3, 100, 1), [rests(3, 100, 1)]),
            (buy(4, 4, 100, 1), [traded(4, 3, 100, 1, 0), triggered(1, 100), rests(1, 90, 1)]),
            (buy(5, 5, 90, 1), [rests(5, 90, 1)]),
            (sell(6, 6, 90, 3), [traded(6, 2, 90, 1, 0), traded(6, 1, 90, 1, 0), traded(6, 5, 90, 1, 0)]),
        )


class Order(LineCase):

    def test_told_in_the_order_they_came_then_done_in_it(self):
        self.check(
            (stop_buy(7, 7, 1, 100), []),
            (stop_sell(5, 5, 2, 100), []),
            (stop_buy(6, 6, 3, 99), []),
            (stop_buy(8, 8, 3, 101), []),
            (sell(1, 1, 100, 1), [rests(1, 100, 1)]),
            (buy(2, 2, 100, 1), [
                traded(2, 1, 100, 1, 0), triggered(7, 100), triggered(5, 100), triggered(6, 100),
                ended(7, 2, 0, 1), ended(5, 2, 0, 2), ended(6, 2, 0, 3),
            ]),
            (cancel(8), [ended(8, 1, 0, 3)]),
        )

    def test_one_that_triggers_others_behind_those_found_before(self):
        self.check(
            (stop_buy(1, 1, 1, 105), []),
            (stop_buy(2, 2, 1, 100), []),
            (stop_buy(3, 3, 1, 100), []),
            (stop_buy(4, 4, 1, 103), []),
            (sell(11, 11, 100, 1), [rests(11, 100, 1)]),
            (sell(12, 11, 103, 1), [rests(12, 103, 1)]),
            (sell(13, 11, 105, 1), [rests(13, 105, 1)]),
            (sell(14, 11, 107, 1), [rests(14, 107, 1)]),
            (buy(20, 20, 100, 1), [
                traded(20, 11, 100, 1, 0),
                triggered(2, 100), triggered(3, 100),
                traded(2, 12, 103, 1, 0), triggered(4, 103),
                traded(3, 13, 105, 1, 0), triggered(1, 105),
                traded(4, 14, 107, 1, 0),
                ended(1, 2, 0, 1),
            ]),
            (look(), (0, 0, 0, 0, 107, 0)),
        )

    def test_found_once_stays_found_when_the_price_turns(self):
        self.check(
            (buy(1, 1, 100, 1), [rests(1, 100, 1)]),
            (buy(2, 1, 90, 1), [rests(2, 90, 1)]),
            (sell(3, 1, 130, 1), [rests(3, 130, 1)]),
            (stop_sell(4, 4, 1, 100), []),
            (stop_sell(5, 5, 2, 100, 95), []),
            (stop_buy(6, 6, 1, 100), []),
            (sell(7, 7, 100, 1), [
                traded(7, 1, 100, 1, 0), triggered(4, 100), triggered(5, 100), triggered(6, 100),
                traded(4, 2, 90, 1, 0), rests(5, 95, 2), traded(6, 5, 95, 1, 1),
            ]),
            (stop_sell(8, 8, 1, 91), []),
            (stop_buy(9, 9, 1, 131), []),
            (buy(10, 10, 130, 2), [traded(10, 5, 95, 1, 0), traded(10, 3, 130, 1, 0)]),
        )

    def test_one_that_was_not_found_waits_on_when_the_price_turns_back(self):
        self.check(
            (buy(1, 1, 90, 1), [rests(1, 90, 1)]),
            (buy(2, 1, 80, 9), [rests(2, 80, 9)]),
            (sell(3, 3, 90, 1), [traded(3, 1, 90, 1, 0)]),
            (stop_sell(4, 4, 1, 85), []),
            (sell(5, 5, 86, 1), [rests(5, 86, 1)]),
            (buy(6, 6, 86, 1), [traded(6, 5, 86, 1, 0)]),
            (sell(7, 7, 80, 1), [traded(7, 2, 80, 1, 8), triggered(4, 80), traded(4, 2, 80, 1, 7)]),
        )

    def test_a_stop_handed_in_later_is_told_later_though_its_trigger_is_nearer(self):
        self.check(
            (stop_sell(1, 1, 1, 50), []),
            (stop_sell(2, 2, 1, 90), []),
            (buy(3, 3, 40, 1), [rests(3, 40, 1)]),
            (sell(4, 4, 40, 1), [
                traded(4, 3, 40, 1, 0), triggered(1, 40), triggered(2, 40), ended(1, 2, 0, 1), ended(2, 2, 0, 1),
            ]),
        )

    def test_a_long_chain(self):
        steps = [(stop_buy(number, 1, 1, number), []) for number in range(500, 100, -1)]
        steps += [(sell(1000 + number, 2, number, 1), [rests(1000 + number, number, 1)]) for number in range(101, 501)]
        told = [traded(9000, 1101, 101, 1, 0)]
        for number in range(101, 500):
            told += [triggered(number, number), traded(number, 1001 + number, number + 1, 1, 0)]
        told += [triggered(500, 500), ended(500, 2, 0, 1)]
        self.check(*steps, (buy(9000, 3, 101, 1), told), (look(), (0, 0, 0, 0, 500, 0)))


class HandedIn(LineCase):

    def test_one_whose_trigger_is_met_comes_and_triggers_another(self):
        self.check(
            *price_made(100),
            (sell(1, 1, 110, 1), [rests(1, 110, 1)]),
            (sell(2, 1, 111, 1), [rests(2, 111, 1)]),
            (stop_buy(3, 3, 1, 105), []),
            (stop_buy(4, 4, 1, 100), [
                triggered(4, 100), traded(4, 1, 110, 1, 0), triggered(3, 110), traded(3, 2, 111, 1, 0),
            ]),
        )

    def test_one_handed_in_during_an_auction_waits(self):
        self.check(
            *price_made(100),
            (auction(1), []),
            (stop_buy(3, 3, 1, 100), []),
            (stop_sell(4, 4, 2, 100, 90), []),
            (cancel(3), [ended(3, 1, 0, 1)]),
            (auction(0), [triggered(4, 100), rests(4, 90, 2)]),
        )

    def test_a_stop_that_rests_can_be_changed_and_cancelled(self):
        self.check(
            *price_made(100),
            (stop_buy(3, 3, 5, 100, 90), [triggered(3, 100), rests(3, 90, 5)]),
            (change(3, 90, 4), [rests(3, 90, 4)]),
            (change(3, 91, 7), [rests(3, 91, 7)]),
            (cancel(3), [ended(3, 1, 91, 7)]),
        )


if __name__ == "__main__":
    unittest.main()
