"""Promise 5: auction, with what the document says under An auction."""

import unittest

from lines import (
    LARGEST_NUMBER, LEAST_NUMBER, LineCase, auction, buy, cancel, ended, look, price_made, rests, sell, stop_buy,
    stop_sell, traded, triggered,
)


def rested(*calls):
    """Steps for limit orders that rest as they are handed in."""
    return [(call, [rests(call[1], call[5], call[6])]) for call in calls]


class OnAndOff(LineCase):

    def test_on_twice_and_off_twice(self):
        self.check(
            (auction(0), -1), (auction(1), []), (auction(1), -1), (auction(0), []), (auction(0), -1), (auction(1), []),
        )

    def test_on_is_whatever_is_not_0(self):
        for on in (LEAST_NUMBER, -1, 1, 2, 255, LARGEST_NUMBER):
            with self.subTest(on=on):
                self.check(
                    (auction(on), []), (auction(on), -1), (auction(1), -1), (buy(1, 1, 1, 1, kind=1), -2),
                    (auction(0), []), (auction(on), []),
                )

    def test_refused_ones_change_nothing(self):
        self.check(
            (auction(1), []),
            *rested(buy(1, 1, 12, 5), sell(2, 2, 10, 5)),
            (auction(1), -1),
            (look(), (12, 5, 10, 5, 0, 10)),
            (auction(0), [traded(1, 2, 10, 5, 0)]),
            (auction(0), -1),
            (look(), (0, 0, 0, 0, 10, 0)),
        )

    def test_what_rests_before_it_takes_part(self):
        self.check(
            *rested(sell(1, 1, 20, 5), buy(2, 2, 10, 5)),
            (auction(1), []),
            *rested(buy(3, 3, 20, 2)),
            (auction(0), [traded(3, 1, 20, 2, 3)]),
            (look(), (10, 5, 20, 3, 20, 0)),
        )

    def test_a_second_one(self):
        self.check(
            (auction(1), []), *rested(buy(1, 1, 20, 5), sell(2, 2, 20, 3)), (auction(0), [traded(1, 2, 20, 3, 0)]),
            (auction(1), []), *rested(sell(3, 3, 18, 3)), (look(), (20, 2, 18, 3, 20, 20)),
            (auction(0), [traded(1, 3, 20, 2, 1)]),
        )


class Price(LineCase):

    def check_price(self, price, calls, latest=0):
        steps = price_made(latest) if latest > 0 else []
        buyers = [(call[5], call[6]) for call in calls if call[3] == 0]
        sellers = [(call[5], call[6]) for call in calls if call[3] == 1]
        highest = max(buyers)[0]
        lowest = min(sellers)[0]
        seen = (
            highest, sum(amount for at, amount in buyers if at == highest),
            lowest, sum(amount for at, amount in sellers if at == lowest), latest, price,
        )
        self.check(*steps, (auction(1), []), *rested(*calls), (look(), seen))

    def test_most_is_traded(self):
        self.check_price(102, [buy(1, 1, 103, 5), buy(2, 2, 102, 9), sell(3, 3, 101, 6), sell(4, 4, 102, 6)])

    def test_most_is_traded_goes_before_the_least_difference(self):
        # At 100 it is 6, with 8 left over; at 101 only 4, with 2 left over.
        self.check_price(100, [buy(1, 1, 101, 4), buy(2, 2, 100, 10), sell(3, 3, 100, 6)])
        # And the other way about.
        self.check_price(101, [sell(1, 1, 100, 4), sell(2, 2, 101, 10), buy(3, 3, 101, 6)])

    def test_most_is_traded_goes_before_the_latest_price(self):
        self.check_price(100, [buy(1, 1, 101, 4), buy(2, 2, 100, 10), sell(3, 3, 100, 6)], latest=101)
        self.check_price(101, [sell(1, 1, 100, 4), sell(2, 2, 101, 10), buy(3, 3, 101, 6)], latest=100)

    def test_least_difference(self):
        # 5 are traded at each of 10, 11 and 12: sellers have 5 in all, buyers 9, 7 and 5.
        self.check_price(12, [buy(1, 1, 12, 5), buy(2, 2, 11, 2), buy(3, 3, 10, 2), sell(4, 4, 10, 5)])
        # And the other way about: buyers have 5 in all, sellers 5, 7 and 9.
        self.check_price(10, [buy(4, 4, 12, 5), sell(1, 1, 10, 5), sell(2, 2, 11, 2), sell(3, 3, 12, 2)])

    def test_least_difference_goes_before_the_latest_price(self):
        self.check_price(12, [buy(1, 1, 12, 5), buy(2, 2, 11, 2), sell(4, 4, 10, 5)], latest=10)
        self.check_price(10, [buy(4, 4, 12, 5), sell(1, 1, 10, 5), sell(2, 2, 11, 2)], latest=12)

    def test_nearest_to_the_latest_price(self):
        calls = [buy(1, 1, 20, 5), sell(2, 2, 10, 5)]
        for latest, price in [(1, 10), (10, 10), (14, 10), (16, 20), (20, 20), (500, 20)]:
            with self.subTest(latest=latest):
                self.check_price(price, calls, latest=latest)

    def test_lowest_of_two_that_are_as_near(self):
        self.check_price(10, [buy(1, 1, 20, 5), sell(2, 2, 10, 5)], latest=15)
        self.check_price(13, [buy(1, 1, 20, 5), sell(2, 2, 13, 2), sell(3, 3, 10, 3)], latest=5)

    def test_lowest_without_a_latest_price(self):
        self.check_price(10, [buy(1, 1, 20, 5), sell(2, 2, 10, 5)])
        self.check_price(400000, [buy(1, 1, 1000000, 5), sell(2, 2, 400000, 5)])

    def test_only_prices_of_orders_that_rest(self):
        self.check_price(20, [buy(1, 1, 20, 5), sell(2, 2, 10, 5)], latest=18)
        self.check_price(10, [buy(1, 1, 20, 5), sell(2, 2, 10, 5)], latest=12)

    def test_prices_of_both_sides_and_of_orders_that_take_no_part(self):
        # At 15, an order that sells behind the best ones, the difference is least.
        self.check_price(15, [buy(1, 1, 20, 8), sell(2, 2, 10, 5), sell(3, 3, 15, 3), sell(4, 4, 18, 9)])
        # At 12, at which only one buyer takes part, there is no difference.
        self.check_price(12, [buy(1, 1, 12, 8), buy(2, 2, 11, 9), sell(3, 3, 10, 8)])

    def test_none_where_nothing_would_be_traded(self):
        self.check_price(0, [buy(1, 1, 10, 5), sell(2, 2, 11, 5)])
        self.check_price(0, [buy(1, 1, 10, 5), sell(2, 2, 11, 5)], latest=10)

    def test_none_with_one_side_or_nobody(self):
        self.check((auction(1), []), (look(), (0, 0, 0, 0, 0, 0)), *rested(buy(1, 1, 10, 5)),
                   (look(), (10, 5, 0, 0, 0, 0)), (cancel(1), [ended(1, 1, 10, 5)]), *rested(sell(2, 1, 10, 5)),
                   (look(), (0, 0, 10, 5, 0, 0)), (auction(0), []))

    def test_amounts_of_one_price_are_added(self):
        self.check_price(11, [
            buy(1, 1, 11, 2), buy(2, 2, 11, 2), buy(3, 3, 11, 2), sell(4, 4, 10, 5), sell(5, 5, 11, 1),
        ])

    def test_what_is_left_counts_not_what_was_handed_in(self):
        self.check(
            *rested(sell(1, 1, 20, 9)),
            (buy(2, 2, 20, 8), [traded(2, 1, 20, 8, 1)]),
            (auction(1), []),
            *rested(buy(3, 3, 21, 3), sell(4, 4, 21, 2)),
            (look(), (21, 3, 20, 1, 20, 21)),
        )

    def test_stops_that_wait_do_not_count(self):
        self.check(
            (auction(1), []),
            *rested(buy(1, 1, 20, 5)),
            (stop_sell(2, 2, 5, 15, 10), []),
            (look(), (20, 5, 0, 0, 0, 0)),
            (auction(0), []),
        )


class Trades(LineCase):

    def test_at_one_price_best_first(self):
        self.check(
            (auction(1), []),
            *rested(
                buy(1, 1, 101, 3), buy(2, 2, 103, 2), buy(3, 3, 103, 2), buy(4, 4, 100, 9),
                sell(5, 5, 101, 4), sell(6, 6, 99, 1), sell(7, 7, 99, 1), sell(8, 8, 105, 9),
            ),
            (look(), (103, 4, 99, 2, 0, 101)),
            (auction(0), [
                traded(2, 6, 101, 1, 0), traded(2, 7, 101, 1, 0), traded(3, 5, 101, 2, 2), traded(1, 5, 101, 2, 0),
            ]),
            (look(), (101, 1, 105, 9, 101, 0)),
        )

    def test_what_the_seller_has_left_is_told(self):
        self.check(
            (auction(1), []),
            *rested(buy(1, 1, 10, 2), buy(2, 2, 10, 3), sell(3, 3, 10, 9)),
            (auction(0), [traded(1, 3, 10, 2, 7), traded(2, 3, 10, 3, 4)]),
            (look(), (0, 0, 10, 4, 10, 0)),
        )

    def test_what_the_buyer_has_left_stays_first(self):
        self.check(
            (auction(1), []),
            *rested(buy(1, 1, 10, 5), sell(3, 3, 10, 2), buy(2, 2, 10, 5)),
            (auction(0), [traded(1, 3, 10, 2, 0)]),
            (look(), (10, 8, 0, 0, 10, 0)),
            (sell(4, 4, 10, 4), [traded(4, 1, 10, 3, 0), traded(4, 2, 10, 1, 4)]),
        )

    def test_one_persons_own_trade(self):
        self.check(
            (auction(1), []),
            *rested(buy(1, 1, 12, 5), sell(2, 1, 10, 3)),
            (look(), (12, 5, 10, 3, 0, 10)),
            (auction(0), [traded(1, 2, 10, 3, 0)]),
            (look(), (12, 2, 0, 0, 10, 0)),
        )

    def test_only_as_long_as_the_price_is_acceptable_to_both(self):
        self.check(
            (auction(1), []),
            *rested(buy(1, 1, 20, 4), buy(2, 2, 14, 4), sell(3, 3, 10, 3), sell(4, 4, 16, 3)),
            (look(), (20, 4, 10, 3, 0, 16)),
            (auction(0), [traded(1, 3, 16, 3, 0), traded(1, 4, 16, 1, 2)]),
            (look(), (14, 4, 16, 2, 16, 0)),
        )

    def test_nothing_traded_and_the_book_stays(self):
        self.check(
            *price_made(15),
            *rested(buy(1, 1, 10, 5), sell(2, 2, 20, 5)),
            (auction(1), []),
            (auction(0), []),
            (look(), (10, 5, 20, 5, 15, 0)),
        )

    def test_trading_goes_on_as_before_behind_it(self):
        self.check(
            (auction(1), []),
            *rested(buy(1, 1, 10, 5), sell(2, 2, 10, 3)),
            (auction(0), [traded(1, 2, 10, 3, 0)]),
            (sell(3, 3, 9, 3), [traded(3, 1, 10, 2, 0), rests(3, 9, 1)]),
        )

    def test_largest_amounts_and_prices(self):
        self.check(
            (auction(1), []),
            *rested(*[buy(number, 1, 1000000, 1000000) for number in range(1, 11)]),
            *rested(*[sell(number, 2, 1, 1000000) for number in range(11, 21)]),
            (look(), (1000000, 10000000, 1, 10000000, 0, 1)),
            (auction(0), [traded(number, number + 10, 1, 1000000, 0) for number in range(1, 11)]),
        )


class StopsBehindIt(LineCase):

    def test_by_the_auctions_price(self):
        self.check(
            (auction(1), []),
            *rested(buy(1, 1, 10, 5), sell(2, 2, 10, 3), sell(3, 3, 12, 1)),
            (stop_buy(4, 4, 1, 10), []),
            (stop_buy(5, 5, 1, 11), []),
            (stop_sell(6, 6, 1, 9), []),
            (stop_sell(7, 7, 1, 12), []),
            (auction(0), [
                traded(1, 2, 10, 3, 0), triggered(4, 10), triggered(7, 10),
                traded(4, 3, 12, 1, 0), triggered(5, 12),
                traded(7, 1, 10, 1, 1), ended(5, 2, 0, 1),
            ]),
            (look(), (10, 1, 0, 0, 10, 0)),
        )

    def test_also_where_nothing_was_traded(self):
        self.check(
            *price_made(100),
            *rested(sell(1, 1, 110, 1)),
            (auction(1), []),
            (stop_buy(2, 2, 2, 100), []),
            (stop_sell(3, 3, 2, 100, 105), []),
            (stop_sell(4, 4, 2, 99), []),
            (auction(0), [
                triggered(2, 100), triggered(3, 100), traded(2, 1, 110, 1, 0), ended(2, 2, 0, 1), rests(3, 105, 2),
            ]),
            (cancel(4), [ended(4, 1, 0, 2)]),
        )

    def test_none_without_a_latest_price(self):
        self.check(
            (auction(1), []),
            (stop_buy(1, 1, 1, 1), []),
            (stop_sell(2, 2, 1, 1000000), []),
            (auction(0), []),
            (cancel(1), [ended(1, 1, 0, 1)]),
            (cancel(2), [ended(2, 1, 0, 1)]),
        )

    def test_the_auction_is_over_when_they_come(self):
        self.check(
            (stop_buy(1, 1, 3, 10, 12), []),
            (auction(1), []),
            *rested(buy(2, 2, 10, 3), sell(3, 3, 10, 3), sell(4, 1, 11, 3), sell(5, 5, 12, 2)),
            (auction(0), [
                traded(2, 3, 10, 3, 0), triggered(1, 10), ended(4, 5, 11, 3), traded(1, 5, 12, 2, 0), rests(1, 12, 1),
            ]),
        )

    def test_stops_do_not_come_when_it_begins(self):
        self.check(
            *price_made(100),
            (stop_buy(1, 1, 1, 101), []),
            (auction(1), []),
            *rested(buy(2, 2, 101, 1), sell(3, 3, 101, 1)),
            (auction(0), [traded(2, 3, 101, 1, 0), triggered(1, 101), ended(1, 2, 0, 1)]),
        )


if __name__ == "__main__":
    unittest.main()
