"""What the tests share: calls as lists of numbers, answers taken apart, and a reader of the document's own words."""
from heapq import heappop, heappush
from itertools import combinations

from pallethallfare.park import answers

DAY = 1440
WEEK = 10080
LATEST = 5000000
COINS = [0] * 8
CENTS = (1, 2, 5, 10, 20, 50, 100, 200)
ANY = "1111111 0 1440 4"


def signs(text):
    return list(text.encode("latin-1"))


def row(numbers):
    return [len(numbers)] + list(numbers)


def tariff(text, coins=None):
    return [1] + row(signs(text)) + row(COINS if coins is None else coins)


def told_text():
    return [2]


def clock(t):
    return [3, t]


def price(a, b, car=1, kind=""):
    return [4, a, b, car] + row(signs(kind))


def bought(a, b, car=1, kind=""):
    return [5, a, b, car] + row(signs(kind))


def proof(a, b, car=1, kind=""):
    return [6, a, b, car] + row(signs(kind))


def fair(a, weights, car=1, kind=""):
    return [7, a, car] + row(signs(kind)) + row(weights)


def season(first, last, kind="gold"):
    return [8, first, last] + row(signs(kind))


def enter(car=1, card=0):
    return [9, car, card]


def voucher(ticket, kind, n):
    return [10, ticket, kind, n]


def owes(ticket):
    return [11, ticket]


def best(ticket):
    return [12, ticket]


def arrange(ticket):
    return [13, ticket]


def pay(ticket, coins):
    return [14, ticket] + row(coins)


def lost(ticket):
    return [15, ticket]


def leave(ticket):
    return [16, ticket]


def shown(ticket):
    return [17, ticket]


def held():
    return [18]


def takings(a=0, b=LATEST):
    return [19, a, b]


def stays():
    return [20]


def change(x):
    return [21, x]


def eight(counts):
    """Eight numbers from {cents: how many}."""
    if not set(counts) <= set(CENTS):
        raise AssertionError(counts)
    return [counts.get(cents, 0) for cents in CENTS]


def worth(coins):
    return sum(cents * count for cents, count in zip(CENTS, coins))


def run(*calls):
    """The answers, a list each; the whole list is gone through twice, and must stay as it was."""
    line = [number for call in calls for number in call]
    before = list(line)
    told = answers(line)
    if line != before:
        raise AssertionError("what was handed in has been changed")
    if answers(line) != told:
        raise AssertionError("the second time it is answered otherwise")
    parted = []
    place = 0
    while place < len(told):
        parted.append(told[place + 1:place + 1 + told[place]])
        place += 1 + told[place]
    if place != len(told) or len(parted) != len(calls):
        raise AssertionError("the answers don't come out one for each call")
    return parted


def last(*calls):
    return run(*calls)[-1]


def lines(*products, free=0, grace=0, lost=0):
    head = ["tariff t", f"free {free}", f"grace {grace}", f"lost {lost}"]
    return "".join(line + "\n" for line in head + list(products))


class Product:
    """A product as the document tells it, read from its line without any check."""

    def __init__(self, line):
        words = line.split(" ")
        self.sort = words[0]
        self.cents = int(words[2])
        self.held = int(words[3])
        self.weekdays = words[4]
        self.times = range(int(words[5]), int(words[6]))
        self.most = int(words[7])
        self.first = words[8:9] == ["first"]
        self.card = words[-1] if len(words) >= 10 else None

    def may_begin(self, s, a, b, car, kind):
        return (a <= s < b and car <= self.most and self.card in (None, kind)
                and self.weekdays[s // DAY % 7] == "1" and s % DAY in self.times
                and (not self.first or s == a))

    def end(self, s):
        if self.sort == "buy":
            return s + self.held
        return next(m for m in (s // DAY * DAY + self.held, (s // DAY + 1) * DAY + self.held) if m > s)


def ways(products, a, b, car, kind):
    """Each product at each minute at which it may be begun: its cents, its first minute, its end."""
    return [(p.cents, s, p.end(s)) for p in products for s in range(a, b) if p.may_begin(s, a, b, car, kind)]


def covers(chosen, x, b):
    return all(any(s <= m < e for _, s, e in chosen) for m in range(x, b))


def least_of_all(all_ways, x, b):
    """rest(x), by going through all ways to buy: a product bought twice for the same minutes is never needed."""
    best = None
    for count in range(len(all_ways) + 1):
        for chosen in combinations(all_ways, count):
            cents = sum(c for c, _, _ in chosen)
            if (best is None or cents < best) and covers(chosen, x, b):
                best = cents
    return best


def slow_rests(products, a, b, car, kind):
    """rest of each minute from a to b, with every beginning tried, not only the latest."""
    all_ways = ways(products, a, b, car, kind)
    rests = {b: 0}
    for x in range(b - 1, a - 1, -1):
        rests[x] = min(c + rests[min(e, b)] for c, s, e in all_ways if s <= x < e)
    return rests


def slow_row(products, rests, a, b, car, kind):
    chosen = []
    x = a
    while x < b:
        for number, p in enumerate(products):
            begins = [s for s in range(a, x + 1) if p.may_begin(s, a, b, car, kind)]
            if begins and p.end(begins[-1]) > x:
                end = p.end(begins[-1])
                if p.cents + rests[min(end, b)] == rests[x]:
                    chosen.append((number, begins[-1], end, p.cents))
                    x = end
                    break
    return chosen


def forward_price(products, a, b, car, kind):
    """rest(a) from the front: the least for all minutes before s, then each product begun at s put on top of it."""
    heap = []
    cents = 0
    for s in range(a, b):
        for p in products:
            if p.may_begin(s, a, b, car, kind):
                heappush(heap, (cents + p.cents, p.end(s)))
        while heap[0][1] <= s:
            heappop(heap)
        cents = heap[0][0]
    return cents


def row_numbers(chosen):
    return [number for product in chosen for number in product]


def slow_fair(products, weights, a, car, kind):
    """None, if the weights are fair, else the product and the minute that are told."""
    b = a + len(weights)
    for number, p in enumerate(products):
        for s in range(a, b):
            if p.may_begin(s, a, b, car, kind) and sum(weights[s - a:p.end(s) - a]) > p.cents:
                return [number, s]
    return None


def full_weights(told, a, b):
    """The weights of all minutes from a to b, from the answer of proof."""
    weights = [0] * (b - a)
    for place in range(3, len(told), 2):
        weights[told[place] - a] = told[place + 1]
    return weights


def one_by_one(coins, most):
    """For each sum to most that coins come to the change: coin by coin, the best for each sum so far."""
    best = {0: (0, (0,) * 8)}
    for kind in range(7, -1, -1):
        for _ in range(coins[kind]):
            for x in sorted(best, reverse=True):
                count, negated = best[x]
                place = 7 - kind
                longer = (count + 1, negated[:place] + (negated[place] - 1,) + negated[place + 1:])
                if x + CENTS[kind] <= most:
                    best[x + CENTS[kind]] = min(longer, best.get(x + CENTS[kind], longer))
    return {x: [-count for count in reversed(best[x][1])] for x in best}


def random_line(rng, name, base, minutes):
    """A product that is begun and ends near the stay, so that small stays see all of it."""
    day_time = base % DAY
    sort = rng.choice(["buy", "flat"])
    held = rng.randrange(1, minutes + 3) if sort == "buy" else (day_time + rng.randrange(0, minutes + 2)) % DAY
    days = "".join(rng.choice("0111") for _ in range(7))
    begin = max(0, min(DAY - 1, day_time + rng.randrange(-3, minutes)))
    end = min(DAY, begin + rng.randrange(1, minutes + 2))
    times = rng.choice([f"{begin} {end}", "0 1440", f"0 {end}", f"{begin} 1440"])
    ending = rng.choice(["", "", "", " first", " card a", " card b", " first card a"])
    return f"{sort} {name} {rng.randrange(0, 12)} {held} {days} {times} {rng.randrange(1, 5)}{ending}"


def random_case(rng, most_products, least_minutes, most_minutes):
    minutes = rng.randrange(least_minutes, most_minutes + 1)
    a = rng.choice([rng.randrange(0, 3 * WEEK), rng.randrange(1, 20) * DAY - rng.randrange(0, minutes + 1)])
    a = max(0, a)
    products = [random_line(rng, f"p{k}", a, minutes) for k in range(rng.randrange(0, most_products))]
    held = rng.choice([f"buy any {rng.randrange(1, 9)} {rng.randrange(1, minutes + 2)}",
                       f"flat any {rng.randrange(1, 30)} {(a + rng.randrange(0, minutes + 1)) % DAY}"])
    products.insert(rng.randrange(0, len(products) + 1), f"{held} {ANY}")
    return products, a, a + minutes, rng.randrange(1, 5), rng.choice(["", "a", "b", "c"])
