"""All promises at once: lines of calls made up by a fixed seed, and long ones, against a book kept in the plainest way.

The plain book keeps everything in lists in the order it came, looks through all of them each time,
and shares no code with the program.
"""

import random
import unittest

from lines import answers, auction, by_call, cancel, change, joined, look, order

SIZES = range(1, 1000001)


class PlainBook:

    def __init__(self):
        self.resting = []
        self.waiting = []
        self.latest = None
        self.auction = False

    def answer(self, call):
        return [None, self.order, self.cancel, self.change, self.set_auction, self.look][call[0]](*call[1:])

    def order(self, number, who, side, kind, price, amount, trigger):
        good = number >= 1 and who in range(1, 256) and side in (0, 1) and kind in range(7) and amount in SIZES
        if kind in (0, 2, 3, 4, 6):
            good = good and price in SIZES
        else:
            price = 0
        if kind in (5, 6):
            good = good and trigger in SIZES
        everything = self.resting + self.waiting
        if not good or number in [one["number"] for one in everything]:
            return [-1]
        if len(everything) >= 1024 or (self.auction and kind in (1, 2, 3, 4)):
            return [-2]
        new = {"number": number, "who": who, "side": side, "kind": kind, "price": price, "amount": amount,
               "trigger": trigger}
        events = []
        if kind in (5, 6):
            self.waiting.append(new)
            if not self.auction:
                self.stops(events)
        elif self.auction:
            self.rest(new, events)
        else:
            self.come(new, kind, events)
            self.stops(events)
        return self.told(events)

    def cancel(self, number):
        for place in (self.resting, self.waiting):
            for one in place:
                if one["number"] == number:
                    place.remove(one)
                    return self.told([(3, number, 1, one["price"], one["amount"], 0)])
        return [-1]

    def change(self, number, price, amount):
        for one in self.resting:
            if one["number"] == number and price in SIZES and amount in SIZES:
                break
        else:
            return [-1]
        events = []
        if price == one["price"] and amount <= one["amount"]:
            one["amount"] = amount
            events.append((2, number, 0, price, amount, 0))
            return self.told(events)
        self.resting.remove(one)
        new = dict(one, price=price, amount=amount)
        if self.auction:
            self.rest(new, events)
        else:
            self.come(new, 0, events)
            self.stops(events)
        return self.told(events)

    def set_auction(self, on):
        if bool(on) == self.auction:
            return [-1]
        events = []
        if on:
            self.auction = True
            return [0]
        price = self.auction_price()
        self.auction = False
        while price:
            buyer, seller = self.best(0), self.best(1)
            if not buyer or not seller or buyer["price"] < price or seller["price"] > price:
                break
            self.trade(buyer, seller, price, events)
        self.stops(events)
        return self.told(events)

    def look(self):
        seen = []
        for side in (0, 1):
            best = self.best(side)
            price = best["price"] if best else 0
            seen += [price, sum(one["amount"] for one in self.on(side) if one["price"] == price)]
        return [0] + seen + [self.latest or 0, (self.auction_price() or 0) if self.auction else 0]

    @staticmethod
    def told(events):
        return [len(events)] + joined(events)

    def on(self, side):
        return [one for one in self.resting if one["side"] == side]

    def best(self, side):
        best = None
        for one in self.on(side):
            if best is None or (one["price"] > best["price"] if side == 0 else one["price"] < best["price"]):
                best = one
        return best

    @staticmethod
    def acceptable(price, one, kind):
        return kind == 1 or (price <= one["price"] if one["side"] == 0 else price >= one["price"])

    def rest(self, one, events):
        self.resting.append(one)
        events.append((2, one["number"], 0, one["price"], one["amount"], 0))

    def trade(self, came, other, price, events):
        amount = min(came["amount"], other["amount"])
        came["amount"] -= amount
        other["amount"] -= amount
        self.latest = price
        self.resting = [one for one in self.resting if one["amount"]]
        events.append((1, came["number"], other["number"], price, amount, other["amount"]))

    def come(self, new, kind, events):
        end = (3, new["number"])
        against = [one for one in self.on(1 - new["side"]) if self.acceptable(one["price"], new, kind)]
        if kind == 3 and sum(one["amount"] for one in against if one["who"] != new["who"]) < new["amount"]:
            events.append(end + (3, new["price"], new["amount"], 0))
            return
        if kind == 4 and against:
            events.append(end + (4, new["price"], new["amount"], 0))
            return
        while new["amount"]:
            best = self.best(1 - new["side"])
            if not best or not self.acceptable(best["price"], new, kind):
                break
            if best["who"] == new["who"]:
                self.resting.remove(best)
                events.append((3, best["number"], 5, best["price"], best["amount"], 0))
            else:
                self.trade(new, best, best["price"], events)
        if new["amount"] and kind in (0, 4):
            self.rest(new, events)
        elif new["amount"]:
            events.append(end + (2, new["price"], new["amount"], 0))

    def stops(self, events):
        found = []
        while True:
            for one in list(self.waiting):
                if self.latest is None:
                    continue
                if self.latest >= one["trigger"] if one["side"] == 0 else self.latest <= one["trigger"]:
                    self.waiting.remove(one)
                    found.append(one)
                    events.append((4, one["number"], 0, self.latest, 0, 0))
            if not found:
                return
            first = found.pop(0)
            self.come(first, 1 if first["kind"] == 5 else 0, events)

    def auction_price(self):
        best = None
        for price in {one["price"] for one in self.resting}:
            wanted = sum(one["amount"] for one in self.on(0) if one["price"] >= price)
            offered = sum(one["amount"] for one in self.on(1) if one["price"] <= price)
            away = 0 if self.latest is None else abs(self.latest - price)
            if min(wanted, offered) > 0:
                rank = (-min(wanted, offered), abs(wanted - offered), away, price)
                best = rank if best is None else min(best, rank)
        return best and best[3]


def made_up_line(seed, length):
    chance = random.Random(seed)
    prices = chance.choice([3, 8, 30])
    amounts = chance.choice([3, 10])
    people = chance.choice([2, 4, 20])
    numbers = chance.choice([10, 40, 1000])
    kinds = chance.choice([(0,), (0, 0, 0, 1, 2, 3, 4, 5, 6), (0, 0, 5, 6, 6), (0, 1, 2, 3, 4)])

    def size(most):
        return chance.choice([0, -1, 1000001]) if chance.random() < 0.01 else chance.randint(1, most)

    def made_up_call():
        which = chance.random()
        if which < 0.65:
            kind = chance.randint(-1, 7) if chance.random() < 0.02 else chance.choice(kinds)
            side = chance.randint(-1, 2) if chance.random() < 0.02 else chance.randint(0, 1)
            return order(size(numbers), size(people), side, kind, size(prices), size(amounts), size(prices))
        if which < 0.73:
            return cancel(size(numbers))
        if which < 0.87:
            return change(size(numbers), size(prices), size(amounts))
        if which < 0.92:
            return auction(chance.choice([0, 0, 1, -7]))
        return look()

    return [made_up_call() for _ in range(length)]


def full_book(chance):
    """Calls that leave 700 orders that rest, at prices that do not meet, and 324 that wait."""
    calls = []
    for number in range(1, 701):
        side = number % 2
        price = chance.randint(1, 400) + 500 * side
        calls.append(order(number, 1 + number % 7, side, 0, price, chance.randint(1, 50), 0))
    for number in range(701, 1025):
        side = number % 2
        trigger = chance.randint(500, 900) if side == 0 else chance.randint(1, 400)
        kind = 5 + chance.randint(0, 1)
        calls.append(order(number, 1 + number % 7, side, kind, chance.randint(1, 900), chance.randint(1, 50), trigger))
    return calls


class AgainstAPlainBook(unittest.TestCase):

    def check_line(self, calls):
        told = by_call(answers(joined(calls)))
        book = PlainBook()
        for place, call in enumerate(calls):
            self.assertEqual(told[place], book.answer(call), "call %d, %s" % (place, call))
        self.assertEqual(len(told), len(calls))

    def test_made_up_lines(self):
        for seed in range(400):
            with self.subTest(seed=seed):
                self.check_line(made_up_line(seed, 120))

    def test_a_long_made_up_line(self):
        self.check_line(made_up_line(1001, 3000))

    def test_3000_calls_on_a_full_book(self):
        chance = random.Random(7)
        calls = full_book(chance)
        while len(calls) < 3000:
            number = chance.randint(1, 1030)
            calls.append(chance.choice([
                order(number, 3, number % 2, chance.randint(0, 6), chance.randint(1, 900), 40, chance.randint(1, 900)),
                change(number, chance.randint(1, 400) + 500 * (number % 2), chance.randint(1, 50)),
                order(number, 5, number % 2, 0, chance.randint(1, 400) + 500 * (number % 2), 9, 0),
                cancel(5000 + number),
                look(),
            ]))
        self.check_line(calls)

    def test_3000_calls_with_a_full_book_in_an_auction(self):
        chance = random.Random(8)
        calls = full_book(chance) + [auction(1)]
        while len(calls) < 2990:
            number = chance.randint(1, 700)
            calls.append(change(number, chance.randint(300, 600), chance.randint(1, 50)))
        self.check_line(calls + [look(), order(2000, 1, 0, 0, 5, 5, 5), auction(0), look(), look()])

    def test_2000_looks_at_a_full_book_in_an_auction(self):
        calls = [order(number, 1, number % 2, 0, number, 1 + number % 9, 0) for number in range(1, 1025)]
        calls = [auction(1)] + calls + [look()]
        seen = PlainBook()
        last = [seen.answer(call) for call in calls][-1]
        told = by_call(answers(joined(calls + [look()] * (3000 - len(calls)))))
        self.assertEqual(len(told), 3000)
        self.assertEqual(told[len(calls) - 1:], [last] * (3001 - len(calls)))


if __name__ == "__main__":
    unittest.main()
