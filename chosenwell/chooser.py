"""The calls on one function of sets of things.

A set is a whole number (1 for thing 1, 2 for thing 2, 4 for thing 3, and so on),
so the function is a list that has, at each set's own number, its value for that set.
"""

TELL = 0
COVER = 1
BEST = 2
GREED = 3
BOUND = 4
BRINGS = 5
BETTER = 6
SETTLE = 7
SPEND = 8
GREEDILY = 9
THREE = 10
CURVE = 11

# How many sets there are of one thing, of two, and so on to five.
SET_COUNTS = (2, 4, 8, 16, 32)
MOST_THINGS = 5
MOST_HANDED = 20000
MOST_POINTS = 20
MOST_WEIGHT = 1000
MOST_PRICE = 1000
# With how many things at most the call three begins.
MOST_BEGUN = 3

WRONG_NUMBERS = -1
NO_BETTER_CHANGE = -3
WRONG_FUNCTION = -6


class UnknownCall(ValueError):
    pass


# The set that has this thing alone.
def only(thing):
    return 1 << (thing - 1)


def things_within(n, s):
    return [thing for thing in range(1, n + 1) if s & only(thing) != 0]


def things_outside(n, s):
    return [thing for thing in range(1, n + 1) if s & only(thing) == 0]


def what_it_brings(worth, s, thing):
    return worth[s | only(thing)] - worth[s]


# An even number stands for its half; an odd one for a number below 0.
def handed_number(handed):
    if handed % 2 == 0:
        return handed // 2
    return -((handed + 1) // 2)


def values_fit(handed):
    if len(handed) not in SET_COUNTS:
        return False
    return max(handed) <= MOST_HANDED


def points_fit(n, points):
    if len(points) % 2 != 0 or len(points) > 2 * MOST_POINTS:
        return False
    for at in range(0, len(points), 2):
        if points[at] > MOST_WEIGHT or points[at + 1] >= SET_COUNTS[n - 1]:
            return False
    return True


# The weights together of the points whose set has something in common with s.
def weight_met(points, s):
    return sum([points[at] for at in range(0, len(points), 2) if points[at + 1] & s != 0])


# Where there are just n prices there is one at least, as there is always a thing: a least one can be asked for.
def prices_fit(n, prices):
    return len(prices) == n and min(prices) >= 1 and max(prices) <= MOST_PRICE


# Whether no thing brings s less than 0, or brings more to s with another thing than to s alone.
def brings_rightly(n, worth, s):
    outside = things_outside(n, s)
    for thing in outside:
        alone = what_it_brings(worth, s, thing)
        if alone < 0:
            return False
        for other in outside:
            if other != thing and what_it_brings(worth, s | only(other), thing) > alone:
                return False
    return True


def function_fits(n, worth):
    if worth[0] != 0:
        return False
    return all([brings_rightly(n, worth, s) for s in range(len(worth))])


# All sets of these things with k things at most, rising.
def sets_up_to(n, k):
    return [s for s in range(SET_COUNTS[n - 1]) if len(things_within(n, s)) <= k]


# The sets are handed in rising, so that the first of as great ones is the lowest.
def best_of(worth, sets):
    best = sets[0]
    for s in sets:
        if worth[s] > worth[best]:
            best = s
    return best


# The things outside rise, so that the first of those that bring as much is the lowest.
def thing_bringing_most(n, worth, s):
    outside = things_outside(n, s)
    most = outside[0]
    for thing in outside:
        if what_it_brings(worth, s, thing) > what_it_brings(worth, s, most):
            most = thing
    return most


def things_by_greed(n, worth, k):
    taken = []
    s = 0
    while len(taken) < min(k, n):
        thing = thing_bringing_most(n, worth, s)
        taken.append(thing)
        s = s | only(thing)
    return taken


# A change is two things: the one that goes and the one that comes.
def changed(s, change):
    return s - only(change[0]) + only(change[1])


# Both walks rise, so that the first change found is the first of all; an empty list where there's none.
def first_better_change(n, worth, s):
    for goes in things_within(n, s):
        for comes in things_outside(n, s):
            change = [goes, comes]
            if worth[changed(s, change)] > worth[s]:
                return change
    return []


def price_of(prices, s):
    return sum([prices[thing - 1] for thing in things_within(len(prices), s)])


def paid_with(b, prices, sets):
    return [s for s in sets if price_of(prices, s) <= b]


def things_still_paid(b, prices, s):
    left = b - price_of(prices, s)
    return [thing for thing in things_outside(len(prices), s) if prices[thing - 1] <= left]


# Each is multiplied by the other's price instead of divided by its own: so nothing is rounded.
def brings_more_for_price(worth, prices, s, thing, other):
    return what_it_brings(worth, s, thing) * prices[other - 1] > what_it_brings(worth, s, other) * prices[thing - 1]


# The things are handed in rising, so that the first of those that bring as much is the lowest.
def most_for_price(worth, prices, s, things):
    most = things[0]
    for thing in things:
        if brings_more_for_price(worth, prices, s, thing, most):
            most = thing
    return most


def greed_for_price(worth, b, prices, begun):
    s = begun
    things = things_still_paid(b, prices, s)
    while len(things) > 0:
        s = s | only(most_for_price(worth, prices, s, things))
        things = things_still_paid(b, prices, s)
    return s


# One function. Each call's method answers a list: the numbers asked for, or a refusal alone.
class Chooser:
    def __init__(self):
        self.n = 1
        self.worth = [0, 0]

    def has_set(self, s):
        return s < len(self.worth)

    def told(self, s):
        return [self.worth[s], s]

    # The function is kept only when nothing is left that could refuse it.
    def take(self, n, worth):
        if not function_fits(n, worth):
            return [WRONG_FUNCTION]
        self.n = n
        self.worth = worth
        return [n] + worth

    def tell(self, handed):
        if not values_fit(handed):
            return [WRONG_NUMBERS]
        n = SET_COUNTS.index(len(handed)) + 1
        return self.take(n, [handed_number(number) for number in handed])

    def cover(self, n, points):
        if n < 1 or n > MOST_THINGS or not points_fit(n, points):
            return [WRONG_NUMBERS]
        return self.take(n, [weight_met(points, s) for s in range(SET_COUNTS[n - 1])])

    def best(self, k):
        return self.told(best_of(self.worth, sets_up_to(self.n, k)))

    def greed(self, k):
        taken = things_by_greed(self.n, self.worth, k)
        return self.told(sum([only(thing) for thing in taken])) + taken

    def bound(self, k, s):
        if not self.has_set(s):
            return [WRONG_NUMBERS]
        brought = [what_it_brings(self.worth, s, thing) for thing in things_outside(self.n, s)]
        return [self.worth[s] + sum(sorted(brought, reverse=True)[:k])]

    def brings(self, s):
        if not self.has_set(s):
            return [WRONG_NUMBERS]
        outside = things_outside(self.n, s)
        answer = [len(outside)]
        for thing in outside:
            answer.append(thing)
            answer.append(what_it_brings(self.worth, s, thing))
        return answer

    def better(self, s):
        if not self.has_set(s):
            return [WRONG_NUMBERS]
        change = first_better_change(self.n, self.worth, s)
        if len(change) == 0:
            return [NO_BETTER_CHANGE]
        return change + [self.worth[changed(s, change)]]

    # This comes to an end: the function is greater after each change.
    def settle(self, s):
        if not self.has_set(s):
            return [WRONG_NUMBERS]
        end = s
        changes = []
        change = first_better_change(self.n, self.worth, end)
        while len(change) > 0:
            changes.append(change)
            end = changed(end, change)
            change = first_better_change(self.n, self.worth, end)
        answer = self.told(end) + [len(changes)]
        for change in changes:
            answer.extend(change)
        return answer

    def spend(self, b, prices):
        if not prices_fit(self.n, prices):
            return [WRONG_NUMBERS]
        paid = paid_with(b, prices, sets_up_to(self.n, self.n))
        return self.told(best_of(self.worth, paid))

    def greedily(self, b, prices):
        if not prices_fit(self.n, prices):
            return [WRONG_NUMBERS]
        return self.told(greed_for_price(self.worth, b, prices, 0))

    def three(self, b, prices):
        if not prices_fit(self.n, prices):
            return [WRONG_NUMBERS]
        paid = paid_with(b, prices, sets_up_to(self.n, MOST_BEGUN))
        made = [greed_for_price(self.worth, b, prices, begun) for begun in paid]
        return self.told(best_of(self.worth, sorted(made)))

    # What best and greed answer first is what the function is for their set.
    def curve(self):
        answer = []
        for k in range(self.n + 1):
            answer.append(self.best(k)[0])
            answer.append(self.greed(k)[0])
        return answer


# Walks through a list of calls, which it only reads: what is handed in stays as it is.
class Reader:
    def __init__(self, calls):
        self.calls = calls
        self.at = 0

    def has_more(self):
        return self.at < len(self.calls)

    def number(self):
        number = self.calls[self.at]
        self.at = self.at + 1
        return number

    # A row has how many numbers it has ahead of it.
    def row(self):
        size = self.number()
        row = self.calls[self.at:self.at + size]
        self.at = self.at + size
        return row


def answer_priced_call(chooser, call, reader):
    b = reader.number()
    prices = reader.row()
    if call == SPEND:
        return chooser.spend(b, prices)
    if call == GREEDILY:
        return chooser.greedily(b, prices)
    return chooser.three(b, prices)


def answer_call(chooser, reader):
    call = reader.number()
    if call == TELL:
        return chooser.tell(reader.row())
    if call == COVER:
        n = reader.number()
        return chooser.cover(n, reader.row())
    if call == BEST:
        return chooser.best(reader.number())
    if call == GREED:
        return chooser.greed(reader.number())
    if call == BOUND:
        k = reader.number()
        return chooser.bound(k, reader.number())
    if call == BRINGS:
        return chooser.brings(reader.number())
    if call == BETTER:
        return chooser.better(reader.number())
    if call == SETTLE:
        return chooser.settle(reader.number())
    if call == CURVE:
        return chooser.curve()
    if call in (SPEND, GREEDILY, THREE):
        return answer_priced_call(chooser, call, reader)
    raise UnknownCall(f"no call has the number {call}")


def answers(calls):
    chooser = Chooser()
    reader = Reader(calls)
    given = []
    while reader.has_more():
        answer = answer_call(chooser, reader)
        given.append(len(answer))
        given.extend(answer)
    return given
