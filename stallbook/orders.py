"""One book at an exchange, and what it answers to a line of calls.

A call's answer is a list: a refusal alone (-1 or -2), or what the call tells.
A price of 0 stands for none: no order and no trade can have it.
"""

# The calls, and by the number of each how many numbers are handed in with it.
ORDER = 1
CANCEL = 2
CHANGE = 3
AUCTION = 4
HOW_MANY_NUMBERS = (0, 7, 1, 3, 1, 0)

# The sides; a book's lines stand in this order too.
BUYS = 0
SELLS = 1

# The kinds that are told apart. Kind 2 needs no name: it is a limit order whose rest ends.
LIMIT = 0
MARKET = 1
ALL_AT_ONCE = 3
ONLY_TO_REST = 4
STOP = 5
STOP_WITH_LIMIT = 6

# The events.
TRADED = 1
RESTS = 2
ENDED = 3
TRIGGERED = 4
NUMBERS_OF_AN_EVENT = 6

# Why an order is ended.
CANCELLED = 1
NOT_TRADED = 2
TOO_LITTLE = 3
WOULD_TRADE = 4
SAME_PERSON = 5

LARGEST_PERSON = 255
# Prices, amounts and triggers all lie between 1 and this.
LARGEST = 1000000
MOST_ORDERS = 1024


class Order:

    def __init__(self, numbers):
        self.number = numbers[0]
        self.who = numbers[1]
        self.side = numbers[2]
        self.kind = numbers[3]
        self.price = numbers[4]
        self.amount = numbers[5]
        self.trigger = numbers[6]
        # The number handed in for a price that isn't there may be anything, and events tell 0 for it.
        if not has_price(self):
            self.price = 0


def has_price(order):
    return order.kind != MARKET and order.kind != STOP


def is_stop(order):
    return order.kind == STOP or order.kind == STOP_WITH_LIMIT


def is_in_range(number):
    return 1 <= number <= LARGEST


def is_as_told(order):
    if order.number < 1 or not 1 <= order.who <= LARGEST_PERSON:
        return False
    if not BUYS <= order.side <= SELLS or not LIMIT <= order.kind <= STOP_WITH_LIMIT:
        return False
    if has_price(order) and not is_in_range(order.price):
        return False
    if is_stop(order) and not is_in_range(order.trigger):
        return False
    return is_in_range(order.amount)


def accepts(order, price):
    if order.kind == MARKET:
        return True
    if order.side == BUYS:
        return price <= order.price
    return price >= order.price


def is_triggered(stop, latest):
    if latest == 0:
        return False
    if stop.side == BUYS:
        return latest >= stop.trigger
    return latest <= stop.trigger


def is_better(order, other):
    if order.side == BUYS:
        return order.price > other.price
    return order.price < other.price


def place_in(line, order):
    # The line stands best first, so its halves tell where the order goes;
    # behind those of its own price, because they came to rest before it.
    low = 0
    high = len(line)
    while low < high:
        middle = (low + high) // 2
        if is_better(order, line[middle]):
            high = middle
        else:
            low = middle + 1
    return low


def auction_price(buyers, sellers, latest):
    # Both lines stand best first: from the lowest price to the highest the last buyers
    # drop out and the next sellers join, so one walk over the prices is enough.
    wanted = sum([order.amount for order in buyers])
    offered = 0
    left = len(buyers)
    joined = 0
    best = (0, 0, 0, 0)
    for price in sorted(set([order.price for order in buyers + sellers])):
        while left > 0 and buyers[left - 1].price < price:
            left -= 1
            wanted -= buyers[left].amount
        while joined < len(sellers) and sellers[joined].price <= price:
            offered += sellers[joined].amount
            joined += 1
        distance = abs(price - latest) if latest > 0 else 0
        rank = (-min(wanted, offered), abs(wanted - offered), distance, price)
        # The first rank has no price and nothing traded, so a price at which nothing is traded never beats it.
        if rank < best:
            best = rank
    return best[3]


class Book:

    def __init__(self):
        # The orders that rest: the buyers' line and the sellers' line, each with its best first.
        self.lines = ([], [])
        # The stops that wait, in the order they came.
        self.waiting = []
        # All that rest and wait, by their numbers.
        self.known = {}
        self.latest = 0
        self.in_auction = False
        # What the call that is being done has told so far, number by number.
        self.events = []

    def take_order(self, numbers):
        order = Order(numbers)
        if not is_as_told(order) or order.number in self.known:
            return [-1]
        if len(self.known) >= MOST_ORDERS:
            return [-2]
        if self.in_auction and order.kind != LIMIT and not is_stop(order):
            return [-2]
        if is_stop(order):
            self.wait(order)
        else:
            self.arrive(order)
        return self.answer()

    def cancel(self, number):
        if number not in self.known:
            return [-1]
        order = self.known[number]
        self.take_out(order)
        self.end(order, CANCELLED)
        return self.answer()

    def change(self, number, price, amount):
        order = self.known.get(number)
        if order is None or is_stop(order):
            return [-1]
        if not is_in_range(price) or not is_in_range(amount):
            return [-1]
        if price == order.price and amount <= order.amount:
            order.amount = amount
            self.tell(RESTS, number, 0, price, amount, 0)
        else:
            self.take_out(order)
            # One that was handed in only to rest comes as a limit order now.
            order.kind = LIMIT
            order.price = price
            order.amount = amount
            self.arrive(order)
        return self.answer()

    def auction(self, on):
        begins = on != 0
        if begins == self.in_auction:
            return [-1]
        self.in_auction = begins
        if not begins:
            self.trade_auction()
            self.trigger_stops()
        return self.answer()

    def look(self):
        told = [0]
        for line in self.lines:
            price = line[0].price if line else 0
            told.append(price)
            told.append(sum([order.amount for order in line if order.price == price]))
        told.append(self.latest)
        told.append(self.price_of_auction() if self.in_auction else 0)
        return told

    def tell(self, event, number, other, price, amount, left):
        self.events.extend([event, number, other, price, amount, left])

    def answer(self):
        told = self.events
        self.events = []
        return [len(told) // NUMBERS_OF_AN_EVENT] + told

    def end(self, order, why):
        self.tell(ENDED, order.number, why, order.price, order.amount, 0)

    def rest(self, order):
        line = self.lines[order.side]
        line.insert(place_in(line, order), order)
        self.known[order.number] = order
        self.tell(RESTS, order.number, 0, order.price, order.amount, 0)

    def take_out(self, order):
        self.known.pop(order.number)
        if is_stop(order):
            self.waiting.remove(order)
        else:
            self.lines[order.side].remove(order)

    def take_out_if_empty(self, order):
        if order.amount == 0:
            self.take_out(order)

    def wait(self, stop):
        self.waiting.append(stop)
        self.known[stop.number] = stop
        if not self.in_auction:
            self.trigger_stops()

    def arrive(self, order):
        if self.in_auction:
            self.rest(order)
        else:
            self.come(order)
            self.trigger_stops()

    def come(self, order):
        if order.kind == ALL_AT_ONCE and self.offered_by_others(order) < order.amount:
            self.end(order, TOO_LITTLE)
        elif order.kind == ONLY_TO_REST and self.can_trade(order):
            self.end(order, WOULD_TRADE)
        else:
            self.trade(order)
            self.settle(order)

    def other_line(self, order):
        return self.lines[SELLS] if order.side == BUYS else self.lines[BUYS]

    def can_trade(self, order):
        line = self.other_line(order)
        return len(line) > 0 and accepts(order, line[0].price)

    def offered_by_others(self, order):
        others = [other for other in self.other_line(order) if other.who != order.who]
        return sum([other.amount for other in others if accepts(order, other.price)])

    def trade(self, order):
        while order.amount > 0 and self.can_trade(order):
            best = self.other_line(order)[0]
            if best.who == order.who:
                self.take_out(best)
                self.end(best, SAME_PERSON)
            else:
                self.exchange(order, best, best.price)
                self.take_out_if_empty(best)

    def exchange(self, order, other, price):
        amount = min(order.amount, other.amount)
        order.amount -= amount
        other.amount -= amount
        self.latest = price
        self.tell(TRADED, order.number, other.number, price, amount, other.amount)

    def settle(self, order):
        if order.amount == 0:
            return
        if order.kind == LIMIT or order.kind == ONLY_TO_REST:
            self.rest(order)
        else:
            self.end(order, NOT_TRADED)

    def trigger_stops(self):
        found = self.take_triggered()
        while found:
            self.come(found.pop(0))
            # What comes may move the latest price, and so trigger stops behind those found before.
            found.extend(self.take_triggered())

    def take_triggered(self):
        found = [stop for stop in self.waiting if is_triggered(stop, self.latest)]
        for stop in found:
            self.take_out(stop)
            self.tell(TRIGGERED, stop.number, 0, self.latest, 0, 0)
            # From here on it is an order like any other.
            stop.kind = MARKET if stop.kind == STOP else LIMIT
        return found

    def price_of_auction(self):
        return auction_price(self.lines[BUYS], self.lines[SELLS], self.latest)

    def trade_auction(self):
        price = self.price_of_auction()
        # Without a price nothing is traded, and no seller accepts 0.
        while self.both_accept(price):
            buyer = self.lines[BUYS][0]
            seller = self.lines[SELLS][0]
            self.exchange(buyer, seller, price)
            self.take_out_if_empty(buyer)
            self.take_out_if_empty(seller)

    def both_accept(self, price):
        for line in self.lines:
            if not line or not accepts(line[0], price):
                return False
        return True


def answer_call(book, call, numbers):
    if call == ORDER:
        return book.take_order(numbers)
    if call == CANCEL:
        return book.cancel(numbers[0])
    if call == CHANGE:
        return book.change(numbers[0], numbers[1], numbers[2])
    if call == AUCTION:
        return book.auction(numbers[0])
    return book.look()


def answers(calls):
    book = Book()
    told = []
    place = 0
    while place < len(calls):
        call = calls[place]
        behind = place + 1 + HOW_MANY_NUMBERS[call]
        answer = answer_call(book, call, calls[place + 1:behind])
        told.append(len(answer))
        told.extend(answer)
        place = behind
    return told
