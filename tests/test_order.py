"""Promise 2: which orders are taken, and which are refused with -1 or -2."""

import unittest

from lines import (
    BUYS, LARGEST_NUMBER, LEAST_NUMBER, SELLS, LineCase, auction, buy, cancel, change, ended, look, order, rests, sell,
    stop_buy, stop_sell, traded, triggered,
)

KINDS = (0, 1, 2, 3, 4, 5, 6)
WITH_PRICE = (0, 2, 3, 4, 6)
WITH_TRIGGER = (5, 6)
OUTSIDE_SIZE = (LEAST_NUMBER, -1, 0, 1000001, LARGEST_NUMBER)
ANY_NUMBER = (LEAST_NUMBER, -5, -1, 0, 1, 7, 1000000, 1000001, LARGEST_NUMBER)


def lone(kind, number=1, who=1, side=BUYS, price=50, amount=5, trigger=60):
    return order(number, who, side, kind, price, amount, trigger)


def lone_events(kind, number=1, price=50, amount=5):
    """What an order tells in an empty book."""
    if kind in (0, 4):
        return [rests(number, price, amount)]
    if kind == 1:
        return [ended(number, 2, 0, amount)]
    if kind == 2:
        return [ended(number, 2, price, amount)]
    if kind == 3:
        return [ended(number, 3, price, amount)]
    return []


class Numbers(LineCase):

    def check_lone(self, call, expected):
        with self.subTest(call=call):
            self.check((call, expected))

    def test_every_kind_is_taken_on_both_sides(self):
        for kind in KINDS:
            for side in (BUYS, SELLS):
                self.check_lone(lone(kind, side=side), lone_events(kind))

    def test_kinds_outside(self):
        for kind in (LEAST_NUMBER, -1, 7, 8, LARGEST_NUMBER):
            self.check_lone(lone(kind), -1)

    def test_own_number(self):
        for kind in KINDS:
            for number in (1, 2, 1000001, LARGEST_NUMBER):
                self.check_lone(lone(kind, number=number), lone_events(kind, number=number))
            for number in (LEAST_NUMBER, -1, 0):
                self.check_lone(lone(kind, number=number), -1)

    def test_who(self):
        for kind in KINDS:
            for who in (1, 2, 254, 255):
                self.check_lone(lone(kind, who=who), lone_events(kind))
            for who in (LEAST_NUMBER, -1, 0, 256, LARGEST_NUMBER):
                self.check_lone(lone(kind, who=who), -1)

    def test_side(self):
        for kind in KINDS:
            for side in (LEAST_NUMBER, -1, 2, LARGEST_NUMBER):
                self.check_lone(lone(kind, side=side), -1)

    def test_price(self):
        for kind in WITH_PRICE:
            for price in (1, 2, 999999, 1000000):
                self.check_lone(lone(kind, price=price), lone_events(kind, price=price))
            for price in OUTSIDE_SIZE:
                self.check_lone(lone(kind, price=price), -1)

    def test_amount(self):
        for kind in KINDS:
            for amount in (1, 2, 999999, 1000000):
                self.check_lone(lone(kind, amount=amount), lone_events(kind, amount=amount))
            for amount in OUTSIDE_SIZE:
                self.check_lone(lone(kind, amount=amount), -1)

    def test_trigger(self):
        for kind in WITH_TRIGGER:
            for trigger in (1, 2, 999999, 1000000):
                self.check_lone(lone(kind, trigger=trigger), [])
            for trigger in OUTSIDE_SIZE:
                self.check_lone(lone(kind, trigger=trigger), -1)

    def test_trigger_is_not_looked_at_without_a_stop(self):
        for kind in (0, 1, 2, 3, 4):
            for trigger in ANY_NUMBER:
                self.check_lone(lone(kind, trigger=trigger), lone_events(kind))

    def test_price_is_not_looked_at_for_market_orders_and_stops(self):
        for side in (BUYS, SELLS):
            for price in ANY_NUMBER:
                self.check_lone(lone(1, side=side, price=price), [ended(1, 2, 0, 5)])
                self.check_lone(lone(5, side=side, price=price), [])

    def test_price_that_is_not_looked_at_decides_nothing(self):
        for price in ANY_NUMBER:
            with self.subTest(price=price):
                self.check(
                    (sell(1, 1, 500, 2), [rests(1, 500, 2)]),
                    (lone(1, number=2, who=2, price=price, amount=3), [traded(2, 1, 500, 2, 0), ended(2, 2, 0, 1)]),
                    (buy(3, 3, 400, 2), [rests(3, 400, 2)]),
                    (order(4, 4, SELLS, 5, price, 3, 500), [
                        triggered(4, 500), traded(4, 3, 400, 2, 0), ended(4, 2, 0, 1),
                    ]),
                )


class TakenNumbers(LineCase):

    def test_number_that_rests(self):
        for kind in KINDS:
            with self.subTest(kind=kind):
                self.check(
                    (buy(1, 1, 10, 5), [rests(1, 10, 5)]),
                    (lone(kind, who=2, side=SELLS, price=10), -1),
                    (look(), (10, 5, 0, 0, 0, 0)),
                )

    def test_number_that_waits(self):
        for kind in KINDS:
            for waiting in (stop_buy(1, 1, 5, 30), stop_sell(1, 1, 5, 30, 20)):
                with self.subTest(kind=kind, waiting=waiting):
                    self.check((waiting, []), (lone(kind, who=2), -1))

    def test_number_is_free_when_its_order_is_gone(self):
        self.check(
            (buy(1, 1, 10, 5), [rests(1, 10, 5)]),
            (cancel(1), [ended(1, 1, 10, 5)]),
            (buy(1, 1, 11, 5), [rests(1, 11, 5)]),
            (sell(2, 2, 11, 2), [traded(2, 1, 11, 2, 3)]),
            (buy(2, 2, 9, 5), [rests(2, 9, 5)]),
            (sell(3, 3, 11, 3), [traded(3, 1, 11, 3, 0)]),
            (buy(1, 3, 8, 1), [rests(1, 8, 1)]),
            (buy(3, 3, 7, 1, kind=2), [ended(3, 2, 7, 1)]),
            (buy(3, 3, 7, 1), [rests(3, 7, 1)]),
        )

    def test_number_is_free_when_its_stop_is_gone(self):
        self.check(
            (stop_buy(1, 1, 5, 20), []),
            (cancel(1), [ended(1, 1, 0, 5)]),
            (stop_buy(1, 1, 6, 20), []),
            (sell(2, 2, 20, 1), [rests(2, 20, 1)]),
            (buy(3, 3, 20, 1), [traded(3, 2, 20, 1, 0), triggered(1, 20), ended(1, 2, 0, 6)]),
            (stop_sell(1, 1, 5, 10), []),
        )

    def test_number_of_a_triggered_stop_that_rests_is_taken(self):
        self.check(
            (sell(1, 1, 20, 1), [rests(1, 20, 1)]),
            (buy(2, 2, 20, 1), [traded(2, 1, 20, 1, 0)]),
            (stop_buy(3, 3, 4, 15, 18), [triggered(3, 20), rests(3, 18, 4)]),
            (buy(3, 3, 5, 5), -1),
        )

    def test_number_is_free_when_the_same_persons_order_ended_it(self):
        self.check(
            (sell(1, 1, 20, 1), [rests(1, 20, 1)]),
            (buy(2, 1, 20, 1), [ended(1, 5, 20, 1), rests(2, 20, 1)]),
            (sell(1, 1, 30, 1), [rests(1, 30, 1)]),
        )

    def test_number_is_free_after_an_auctions_trades(self):
        self.check(
            (auction(1), []),
            (buy(1, 1, 20, 1), [rests(1, 20, 1)]),
            (sell(2, 2, 20, 1), [rests(2, 20, 1)]),
            (auction(0), [traded(1, 2, 20, 1, 0)]),
            (buy(1, 1, 20, 1), [rests(1, 20, 1)]),
            (buy(2, 1, 20, 1), [rests(2, 20, 1)]),
        )


def filling(how_many, stops=0):
    """Steps that hand in so many orders, the last ones as stops that wait."""
    steps = [(buy(number, 1, 10, 1), [rests(number, 10, 1)]) for number in range(1, how_many - stops + 1)]
    return steps + [(stop_buy(number, 1, 1, 99), []) for number in range(how_many - stops + 1, how_many + 1)]


class MostOrders(LineCase):

    def test_1024_rest_and_one_more(self):
        self.check(*filling(1024), (buy(1025, 1, 10, 1), -2), (look(), (10, 1024, 0, 0, 0, 0)))

    def test_1024_wait_and_one_more(self):
        self.check(*filling(1024, stops=1024), (stop_sell(1025, 1, 1, 99), -2), (cancel(1025), -1))

    def test_1024_rest_and_wait_and_one_more_of_each_kind(self):
        full = filling(1024, stops=500)
        refused = [(lone(kind, number=2000 + kind, who=2, side=SELLS, price=10), -2) for kind in KINDS]
        self.check(*full, *refused, (look(), (10, 524, 0, 0, 0, 0)))

    def test_1023_and_one_more_of_each_kind(self):
        for kind in KINDS:
            with self.subTest(kind=kind):
                self.check(*filling(1023, stops=1), (lone(kind, number=2000), lone_events(kind, number=2000)))

    def test_wrong_numbers_are_told_first(self):
        self.check(*filling(1024), (buy(1, 1, 10, 1), -1), (buy(1025, 0, 10, 1), -1), (lone(7, number=1025), -1))

    def test_room_again(self):
        self.check(
            *filling(1024, stops=2),
            (cancel(1), [ended(1, 1, 10, 1)]),
            (sell(1025, 2, 10, 1), [traded(1025, 2, 10, 1, 0)]),
            (sell(1026, 2, 20, 1), [rests(1026, 20, 1)]),
            (buy(1027, 2, 5, 1), [rests(1027, 5, 1)]),
            (buy(1028, 2, 5, 1), -2),
            (cancel(1024), [ended(1024, 1, 0, 1)]),
            (buy(1028, 2, 5, 1), [rests(1028, 5, 1)]),
            (buy(1029, 2, 5, 1), -2),
        )

    def test_1024_in_an_auction(self):
        self.check(
            (auction(1), []),
            *filling(1024, stops=24),
            (buy(1025, 1, 10, 1), -2),
            (stop_buy(1025, 1, 1, 9), -2),
            (buy(1025, 1, 10, 1, kind=2), -2),
        )

    def test_a_change_needs_no_room(self):
        self.check(*filling(1024), (change(5, 12, 3), [rests(5, 12, 3)]), (look(), (12, 3, 0, 0, 0, 0)))


class InAuction(LineCase):

    def test_kinds_1_to_4_are_refused(self):
        steps = [(auction(1), [])]
        for kind in (1, 2, 3, 4):
            steps.append((lone(kind), -2))
        self.check(*steps, (look(), (0, 0, 0, 0, 0, 0)), (cancel(1), -1))

    def test_wrong_numbers_are_told_first(self):
        for kind in (1, 2, 3, 4):
            with self.subTest(kind=kind):
                self.check(
                    (auction(1), []),
                    (buy(1, 1, 10, 1), [rests(1, 10, 1)]),
                    (lone(kind), -1),
                    (lone(kind, number=2, amount=0), -1),
                    (lone(kind, number=2), -2),
                )

    def test_limit_orders_rest_and_stops_wait(self):
        self.check(
            (sell(1, 1, 10, 1), [rests(1, 10, 1)]),
            (buy(2, 2, 10, 1), [traded(2, 1, 10, 1, 0)]),
            (auction(1), []),
            (buy(3, 3, 20, 5), [rests(3, 20, 5)]),
            (sell(4, 4, 15, 5), [rests(4, 15, 5)]),
            (sell(5, 3, 20, 5), [rests(5, 20, 5)]),
            (stop_buy(6, 6, 1, 10), []),
            (stop_sell(7, 7, 1, 10, 5), []),
            (look(), (20, 5, 15, 5, 10, 15)),
            (cancel(6), [ended(6, 1, 0, 1)]),
            (cancel(7), [ended(7, 1, 5, 1)]),
        )

    def test_all_kinds_are_taken_again_when_it_has_ended(self):
        self.check(
            (auction(1), []), (auction(0), []),
            *[(lone(kind, number=10 + kind), lone_events(kind, number=10 + kind)) for kind in KINDS],
        )


if __name__ == "__main__":
    unittest.main()
