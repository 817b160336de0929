"""What the tests share: calls and events by their names, and a case that compares call by call."""

import unittest

from stallbook.orders import answers

BUYS = 0
SELLS = 1
LEAST_NUMBER = -2147483648
LARGEST_NUMBER = 2147483647


def order(number, who, side, kind, price, amount, trigger):
    return [1, number, who, side, kind, price, amount, trigger]


def buy(number, who, price, amount, kind=0):
    return order(number, who, BUYS, kind, price, amount, 0)


def sell(number, who, price, amount, kind=0):
    return order(number, who, SELLS, kind, price, amount, 0)


def stop_buy(number, who, amount, trigger, price=None):
    return stop(number, who, BUYS, amount, trigger, price)


def stop_sell(number, who, amount, trigger, price=None):
    return stop(number, who, SELLS, amount, trigger, price)


def stop(number, who, side, amount, trigger, price):
    if price is None:
        return order(number, who, side, 5, 0, amount, trigger)
    return order(number, who, side, 6, price, amount, trigger)


def cancel(number):
    return [2, number]


def change(number, price, amount):
    return [3, number, price, amount]


def auction(on):
    return [4, on]


def look():
    return [5]


def traded(came, other, price, amount, left):
    return (1, came, other, price, amount, left)


def rests(number, price, amount):
    return (2, number, 0, price, amount, 0)


def ended(number, why, price, amount):
    return (3, number, why, price, amount, 0)


def triggered(number, latest):
    return (4, number, 0, latest, 0, 0)


def joined(calls):
    return [number for call in calls for number in call]


def by_call(told):
    """Takes the numbers told for each call apart, by the count ahead of them."""
    parts = []
    place = 0
    while place < len(told):
        if told[place] < 1:
            raise AssertionError("no count of an answer: %d" % told[place])
        behind = place + 1 + told[place]
        parts.append(told[place + 1:behind])
        place = behind
    return parts


def expected_numbers(expected):
    """A refusal is a number, what look tells a tuple of six, all else a list of events."""
    if isinstance(expected, int):
        return [expected]
    if isinstance(expected, tuple):
        return [0] + list(expected)
    return [len(expected)] + joined(expected)


def price_made(price, number=900001):
    """Steps that make this price the latest, and leave nothing behind."""
    return [
        (sell(number, 201, price, 1), [rests(number, price, 1)]),
        (buy(number + 1, 202, price, 1), [traded(number + 1, number, price, 1, 0)]),
    ]


class LineCase(unittest.TestCase):

    def check(self, *steps):
        """Each step is a call and what is expected of it; all are one line of calls."""
        calls = [call for call, _ in steps]
        told = by_call(answers(joined(calls)))
        for place, (call, expected) in enumerate(steps):
            self.assertLess(place, len(told), "no answer to call %d, %s" % (place, call))
            self.assertEqual(told[place], expected_numbers(expected), "call %d, %s" % (place, call))
        self.assertEqual(len(told), len(steps))
