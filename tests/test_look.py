"""Promise 6: look."""

import unittest

from lines import LineCase, auction, buy, cancel, change, ended, look, price_made, rests, sell, stop_buy, traded


class Look(LineCase):

    def test_empty(self):
        self.check((look(), (0, 0, 0, 0, 0, 0)), (look(), (0, 0, 0, 0, 0, 0)))

    def test_one_side(self):
        self.check(
            (buy(1, 1, 10, 5), [rests(1, 10, 5)]),
            (look(), (10, 5, 0, 0, 0, 0)),
            (cancel(1), [ended(1, 1, 10, 5)]),
            (sell(2, 2, 20, 6), [rests(2, 20, 6)]),
            (look(), (0, 0, 20, 6, 0, 0)),
        )

    def test_both_with_all_that_rests_at_the_best_price(self):
        self.check(
            (buy(1, 1, 10, 5), [rests(1, 10, 5)]),
            (buy(2, 2, 11, 1), [rests(2, 11, 1)]),
            (buy(3, 1, 11, 2), [rests(3, 11, 2)]),
            (buy(4, 4, 9, 50), [rests(4, 9, 50)]),
            (sell(5, 5, 20, 3), [rests(5, 20, 3)]),
            (sell(6, 6, 20, 4), [rests(6, 20, 4)]),
            (sell(7, 7, 21, 70), [rests(7, 21, 70)]),
            (look(), (11, 3, 20, 7, 0, 0)),
            (change(6, 20, 1), [rests(6, 20, 1)]),
            (look(), (11, 3, 20, 4, 0, 0)),
        )

    def test_latest_price(self):
        self.check(
            *price_made(77),
            (look(), (0, 0, 0, 0, 77, 0)),
            *price_made(1000000),
            *price_made(1),
            (look(), (0, 0, 0, 0, 1, 0)),
            (buy(1, 1, 5, 5), [rests(1, 5, 5)]),
            (sell(2, 2, 4, 2), [traded(2, 1, 5, 2, 3)]),
            (look(), (5, 3, 0, 0, 5, 0)),
        )

    def test_no_price_of_an_auction_outside_of_one(self):
        self.check(
            (auction(1), []),
            (buy(1, 1, 12, 5), [rests(1, 12, 5)]),
            (sell(2, 2, 10, 4), [rests(2, 10, 4)]),
            (look(), (12, 5, 10, 4, 0, 10)),
            (auction(0), [traded(1, 2, 10, 4, 0)]),
            (look(), (12, 1, 0, 0, 10, 0)),
            (sell(3, 3, 13, 2), [rests(3, 13, 2)]),
            (auction(1), []),
            (look(), (12, 1, 13, 2, 10, 0)),
        )

    def test_in_an_auction_with_and_without_a_latest_price(self):
        crossed = [(buy(1, 1, 20, 5), [rests(1, 20, 5)]), (sell(2, 2, 10, 5), [rests(2, 10, 5)])]
        self.check((auction(1), []), *crossed, (look(), (20, 5, 10, 5, 0, 10)))
        self.check(*price_made(30), (auction(1), []), *crossed, (look(), (20, 5, 10, 5, 30, 20)))

    def test_it_changes_nothing(self):
        self.check(
            (auction(1), []),
            (buy(1, 1, 20, 5), [rests(1, 20, 5)]),
            (sell(2, 2, 10, 5), [rests(2, 10, 5)]),
            (stop_buy(3, 3, 1, 5), []),
            (look(), (20, 5, 10, 5, 0, 10)),
            (look(), (20, 5, 10, 5, 0, 10)),
            (cancel(3), [ended(3, 1, 0, 1)]),
            (auction(0), [traded(1, 2, 10, 5, 0)]),
        )

    def test_amounts_above_those_of_one_order(self):
        self.check(
            *[(buy(number, 1, 7, 1000000), [rests(number, 7, 1000000)]) for number in range(1, 1025)],
            (look(), (7, 1024000000, 0, 0, 0, 0)),
        )


if __name__ == "__main__":
    unittest.main()
