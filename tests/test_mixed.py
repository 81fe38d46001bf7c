"""The whole document: lists of 60 calls that mix all 21, against a slow and plain second way of each rule."""
import random
import re
import unittest
from itertools import permutations

from tests import helper
from tests.helper import (ANY, CENTS, DAY, LATEST, WEEK, Product, forward_price, lines, one_by_one, row_numbers, run, signs,
                          slow_fair, slow_rests, slow_row, worth)

NAMES = ("tariff told_text clock price bought proof fair season enter voucher owes best arrange pay lost leave shown held "
         "takings stays change").split()
OFTEN = "clock clock clock enter enter voucher voucher voucher owes pay pay pay pay best arrange lost leave shown".split()
NAME = "[a-z][a-z0-9]{0,11}"
NUMBER = "(0|[1-9][0-9]{0,8})"
HEADS = (f"tariff {NAME}()", f"free {NUMBER}", f"grace {NUMBER}", f"lost {NUMBER}")
MOST = (None, 120, 60, 99999)
PRODUCT = re.compile(f"(buy|flat) ({NAME}) {NUMBER} {NUMBER} [01]{{7}} {NUMBER} {NUMBER} {NUMBER}( first)?( card {NAME})?")


def head_faults(number, line):
    found = re.fullmatch(HEADS[number], line)
    if not found:
        return [1]
    return [2] if number > 0 and int(found[1]) > MOST[number] else []


def product_faults(line, names, count):
    found = PRODUCT.fullmatch(line)
    faults = [4] if count == 12 else []
    if not found:
        return faults + [1]
    cents, holds, begin, end, most = [int(found[k]) for k in range(3, 8)]
    held_right = 1 <= holds <= 10080 if found[1] == "buy" else holds <= 1439
    if cents > 99999 or not held_right or not begin < end <= 1440 or not 1 <= most <= 4:
        faults.append(2)
    return faults + ([3] if found[2] in names else [])


def slow_fault(text):
    """None, or the first fault's kind and line."""
    whole = text.split("\n")[:-1]
    names = []
    for number, line in enumerate(whole):
        faults = head_faults(number, line) if number < 4 else product_faults(line, names, number - 4)
        if faults:
            return [min(faults), number]
        names.append(line.split(" ")[1] if number >= 4 else "")
    if len(whole) < 5 or not text.endswith("\n"):
        return [1, len(whole)]
    if not any(line.endswith(ANY) for line in whole[4:]):
        return [5, len(whole)]
    return None


def is_kind(kind):
    return re.fullmatch(NAME, kind) is not None


class Slow:
    """All is kept as it came, and each answer is reckoned from that anew."""

    def __init__(self):
        self.text = None

    def ask(self, name, *given):
        if self.text is None and name != "tariff":
            return [-3]
        return getattr(self, name)(*given)

    def tariff(self, text, coins):
        if len(text) > 4096:
            return [-2]
        if len(coins) != 8 or any(count > 40 for count in coins):
            return [-1]
        fault = slow_fault(text)
        if fault:
            return [-6] + fault
        self.text = text
        whole = text.split("\n")
        self.free, self.grace, self.lost_cents = [int(line.split(" ")[1]) for line in whole[1:4]]
        self.products = [Product(line) for line in whole[4:-1]]
        self.now = 0
        self.began_with = list(coins)
        self.moved = []
        self.cards = []
        self.tickets = []
        return [0]

    def told_text(self):
        return [len(self.text)] + signs(self.text)

    def clock(self, t):
        if t < self.now or t > LATEST:
            return [-1]
        self.now = t
        return [0]

    def is_wrong(self, a, b, car, kind):
        return b < a or b > LATEST or car not in (1, 2, 3, 4) or not (kind == "" or is_kind(kind))

    def price_of(self, a, b, car, kind):
        if b - a <= self.free:
            return 0
        days = [m for m in range(a + WEEK, b, DAY)]
        return forward_price(self.products, a, min(b, a + WEEK), car, kind) + len(days) * self.lost_cents

    def price(self, a, b, car, kind):
        return [-1] if self.is_wrong(a, b, car, kind) else [0, self.price_of(a, b, car, kind)]

    def bought(self, a, b, car, kind):
        if self.is_wrong(a, b, car, kind) or b - a > WEEK:
            return [-1]
        rests = slow_rests(self.products, a, b, car, kind)
        chosen = slow_row(self.products, rests, a, b, car, kind)
        return [0, rests[a], len(chosen)] + row_numbers(chosen)

    def proof(self, a, b, car, kind):
        if self.is_wrong(a, b, car, kind) or b - a > DAY:
            return [-1]
        rests = slow_rests(self.products, a, b, car, kind)
        weights = [(m, rests[m] - rests[m + 1]) for m in range(a, b) if rests[m] > rests[m + 1]]
        return [0, rests[a], len(weights)] + row_numbers(weights)

    def fair(self, a, weights, car, kind):
        if len(weights) > 1440 or max(weights, default=0) > 99999 or self.is_wrong(a, a + len(weights), car, kind):
            return [-1]
        found = slow_fair(self.products, weights, a, car, kind)
        return [1] + found if found else [0, sum(weights)]

    def season(self, first, final, kind):
        if final < first or final > 3472 or not is_kind(kind):
            return [-1]
        if len(self.cards) >= 32:
            return [-7]
        self.cards.append((range(first, final + 1), kind))
        return [0, len(self.cards) - 1]

    def enter(self, car, card):
        if car not in (1, 2, 3, 4):
            return [-1]
        if card > len(self.cards):
            return [-4]
        if card > 0 and any(ticket["card"] == card and not ticket["gone"] for ticket in self.tickets):
            return [-8]
        if len(self.tickets) >= 200:
            return [-7]
        days, kind = self.cards[card - 1] if card > 0 else ([], "")
        self.tickets.append({"class": car, "card": card, "kind": kind if self.now // DAY in days else "", "minute": self.now,
                             "vouchers": [], "payments": [], "since": [], "lost": 0, "gone": False})
        return [0, len(self.tickets) - 1]

    def found(self, number):
        return self.tickets[number] if number < len(self.tickets) and not self.tickets[number]["gone"] else None

    def base(self, ticket):
        minutes = range(ticket["minute"], self.now)
        later = sum(n for kind, n in ticket["vouchers"] if kind == 0)
        return self.price_of(self.now - len(minutes[later:]), self.now, ticket["class"], ticket["kind"])

    def left(self, cents, vouchers):
        for kind, n in vouchers:
            if kind == 1:
                cents = -(-cents * (100 - n) // 100)
            if kind == 2:
                cents = max(0, cents - n)
        return cents

    def due(self, ticket):
        if ticket["lost"]:
            return max(self.lost_cents, self.price_of(ticket["minute"], self.now, ticket["class"], ticket["kind"]))
        return self.left(self.base(ticket), ticket["vouchers"])

    def paid(self, ticket):
        return sum(cents for _, cents in ticket["payments"])

    def owed(self, ticket):
        if any(self.now - minute <= self.grace for minute in ticket["since"]):
            return 0
        return max(0, self.due(ticket) - self.paid(ticket))

    def voucher(self, number, kind, n):
        ticket = self.found(number)
        if ticket is None:
            return [-4]
        if (kind, n) not in [(0, min(n, 1440)), (1, min(n, 100)), (2, min(n, 99999))] or n == 0:
            return [-1]
        if len(ticket["vouchers"]) == 3:
            return [-7]
        ticket["vouchers"].append((kind, n))
        return [0]

    def owes(self, number):
        ticket = self.found(number)
        return [0, self.owed(ticket), self.due(ticket), self.paid(ticket)] if ticket else [-4]

    def best_of(self, ticket):
        base = self.base(ticket)
        vouchers = ticket["vouchers"]
        return min([self.left(base, [vouchers[k] for k in order]), *order] for order in permutations(range(len(vouchers))))

    def best(self, number):
        ticket = self.found(number)
        return [0] + self.best_of(ticket) if ticket else [-4]

    def arrange(self, number):
        ticket = self.found(number)
        if ticket:
            ticket["vouchers"] = [ticket["vouchers"][k] for k in self.best_of(ticket)[1:]]
        return [0] if ticket else [-4]

    def coins(self):
        """What it began with, what was handed in, less what was given back."""
        return [sum(counts) for counts in zip(self.began_with, *self.moved)]

    def pay(self, number, coins):
        ticket = self.found(number)
        if ticket is None:
            return [-4]
        if len(coins) != 8 or max(coins) > 20:
            return [-1]
        owed = self.owed(ticket)
        back = worth(coins) - owed
        if owed == 0 or back < 0 or back > 1000:
            return [-5] if owed == 0 else [-6, -back] if back < 0 else [-7]
        given = one_by_one([a + b for a, b in zip(self.coins(), coins)], back).get(back)
        if given is None:
            return [-8]
        kept = [a - b for a, b in zip(coins, given)]
        if any(a + b > 40 for a, b in zip(self.coins(), kept)):
            return [-10]
        self.moved.append(kept)
        ticket["payments"].append((self.now, owed))
        ticket["since"].append(self.now)
        return [0] + given

    def lost(self, number):
        ticket = self.found(number)
        if ticket is None or ticket["lost"]:
            return [-5] if ticket else [-4]
        ticket["lost"] = 1
        ticket["since"] = []
        return [0]

    def leave(self, number):
        ticket = self.found(number)
        if ticket is None or self.owed(ticket):
            return [-9, self.owed(ticket)] if ticket else [-4]
        ticket["gone"] = True
        return [0]

    def shown(self, number):
        ticket = self.found(number)
        if ticket is None:
            return [-4]
        latest = ticket["since"][-1] + 1 if ticket["since"] else 0
        return [0, ticket["class"], int(ticket["kind"] != ""), ticket["minute"], self.paid(ticket), ticket["lost"], latest,
                len(ticket["vouchers"])] + row_numbers(ticket["vouchers"])

    def held(self):
        return [0] + self.coins()

    def takings(self, a, b):
        found = [cents for ticket in self.tickets for minute, cents in ticket["payments"] if a <= minute <= b]
        return [0, sum(found), len(found)]

    def stays(self):
        found = [number for number in range(len(self.tickets)) if self.found(number)]
        return [0, len(found)] + found

    def change(self, x):
        if x > 1000:
            return [-1]
        given = one_by_one(self.coins(), x).get(x)
        return [-8] if given is None else [0] + given


class Lister:
    """Calls as they might come, near what's there; one of six is let go wrong."""

    def __init__(self, seed):
        self.rng = random.Random(seed)
        self.slow = Slow()
        self.is_wild = False

    def pick(self, right, wrong):
        return self.rng.choice(right + wrong if self.is_wild else right)

    def text(self):
        rng = self.rng
        products = [f"buy any {rng.randrange(1, 60)} {rng.randrange(1, 60)} {ANY}"]
        for k in range(rng.randrange(0, 5)):
            sort, most = rng.choice((("buy", 200), ("flat", 1440)))
            begin = rng.choice((0, 0, rng.randrange(0, 400)))
            end = rng.choice((1440, rng.randrange(begin + 1, 1441)))
            days = "".join(rng.choice("0111") for _ in range(7))
            ending = rng.choice(("", "", " first", " card a", " card b", " first card a"))
            products.insert(rng.randrange(0, len(products) + 1), f"{sort} p{k} {rng.randrange(0, 200)} "
                            f"{rng.randrange(1, most)} {days} {begin} {end} {rng.randrange(1, 5)}{ending}")
        return lines(*products, free=rng.choice((0, 0, 10, 60)), grace=rng.choice((0, 5, 15)), lost=rng.randrange(0, 700))

    def broken(self, text):
        rng = self.rng
        place = rng.randrange(0, len(text))
        sign = rng.choice(" \n019aX")
        return rng.choice((text[:place] + sign + text[place + 1:], text[:place] + text[place + 1:], text[:place],
                           text + text.split("\n")[-2] + "\n", "x" * 4097, text.replace(ANY, "1111111 0 1440 3")))

    def tariff(self):
        coins = [self.rng.choice((0, 0, 1, 3, 6)) for _ in range(8)]
        if self.rng.random() < 0.3:
            coins[self.rng.randrange(0, 8)] = 40
        text = self.text()
        # One that's given anew is mostly refused, so that the list goes on with what it has.
        if self.slow.text is not None and self.rng.random() < 0.8:
            wrong_coins = self.rng.choice((coins[1:], coins + [0], coins[:7] + [41], []))
            return self.rng.choice(((self.broken(text), coins), (text, wrong_coins), (self.broken(text), wrong_coins)))
        return text, coins

    def now(self):
        return self.slow.now if self.slow.text is not None else 0

    def clock(self):
        now = self.now()
        if self.rng.random() < 0.03:
            return min(LATEST, now + self.rng.choice((DAY, WEEK, 12000))),
        return self.pick([now + self.rng.randrange(0, 30), now + self.rng.randrange(0, 250), now],
                         [max(0, now - 1), LATEST + 1]),

    def stay(self):
        rng = self.rng
        a = rng.choice((self.now(), rng.randrange(0, 2 * WEEK)))
        b = self.pick([a + rng.randrange(0, 70)], [max(0, a - 1), LATEST + 1])
        return a, b, self.pick([1, 2, 3, 4], [0, 5]), self.pick(["", "", "a", "b", "c9"], ["A", "9"])

    def price(self):
        a, b, car, kind = self.stay()
        return a, b if b < a or self.rng.random() < 0.8 else b + self.rng.choice((DAY, 10021, 15000)), car, kind

    def bought(self):
        return self.stay()

    def proof(self):
        a, b, car, kind = self.stay()
        return a, b + self.pick([0], [1441]), car, kind

    def fair(self):
        a, b, car, kind = self.stay()
        if self.slow.text is None or not a < b <= a + 100 or car not in (1, 2, 3, 4):
            return a, [self.rng.choice((0, 1, 99999, 100000)) for _ in range(self.rng.randrange(0, 4))], car, kind
        rests = slow_rests(self.slow.products, a, b, car, kind)
        weights = [rests[m] - rests[m + 1] for m in range(a, b)]
        if self.rng.random() < 0.5:
            weights[self.rng.randrange(0, b - a)] += 1
        return a, weights, car, kind

    def season(self):
        day = self.now() // DAY
        return self.rng.choice((0, day)), self.pick([day, day, day + 3], [3473]), self.pick(["a", "a", "b"], ["", "B"])

    def enter(self):
        count = len(self.slow.cards) if self.slow.text is not None else 0
        return self.pick([1, 2, 3, 4], [0, 5]), self.pick([0, self.rng.randrange(0, count + 1)], [count + 1])

    def ticket(self):
        drawn = len(self.slow.tickets) if self.slow.text is not None else 0
        present = [number for number in range(drawn) if self.slow.found(number)]
        return self.pick(present[-3:] or [0], list(range(drawn + 1)))

    def voucher(self):
        kind = self.pick([0, 1, 1, 2, 2], [3])
        return self.ticket(), kind, self.pick([self.rng.randrange(1, 60)] * 6 + [(1440, 100, 99999, 1)[kind]],
                                              [0, (1441, 101, 100000, 0)[kind]])

    def pay(self):
        rng = self.rng
        number = self.ticket()
        found = self.slow.found(number) if self.slow.text is not None else None
        cents = self.slow.owed(found) if found else 10
        cents += rng.choice((0, 0, rng.randrange(0, 50), rng.randrange(0, 300))) - self.pick([0, 0, 0, 1], [20, -1000, -1001])
        return number, self.pick([self.handed(cents)], [[0] * 7, [21] + [0] * 7])

    def handed(self, cents):
        """Mostly from the greatest kind down, then perhaps one of 200 more, so that there's something to give back."""
        coins = [0] * 8
        for kind in sorted(range(8), key=lambda k: (-k if self.rng.random() < 0.8 else 9)):
            coins[kind] = min(20, max(0, cents) // CENTS[kind])
            cents -= coins[kind] * CENTS[kind]
        if coins[7] < 20 and self.rng.random() < 0.3:
            coins[7] += 1
        return coins

    def takings(self):
        return self.rng.randrange(0, self.now() + 5), self.rng.randrange(0, self.now() + 5)

    def change(self):
        return self.pick([self.rng.randrange(0, 20), self.rng.randrange(0, 100), self.rng.randrange(0, 1001)], [1001]),

    def given(self, name):
        if name in ("owes", "best", "arrange", "lost", "leave", "shown"):
            return self.ticket(),
        return () if name in ("told_text", "held", "stays") else getattr(self, name)()

    def call(self, name):
        """The call, and what the slow way answers."""
        self.is_wild = self.rng.random() < 0.17
        given = self.given(name)
        return getattr(helper, name)(*given), self.slow.ask(name, *given)


class Mixed(unittest.TestCase):
    def listed(self, seed):
        lister = Lister(seed)
        names = NAMES + lister.rng.choices(OFTEN, k=33)
        lister.rng.shuffle(names)
        names = ["tariff", "season", "enter", "enter", "enter"] + names
        if seed % 10 == 0:
            names = names[5:10] + names[:5] + names[10:]
        pairs = [lister.call(name) for name in names]
        pairs.append((helper.held(), lister.slow.ask("held")))
        self.assertEqual(len(pairs), 60)
        return lister.slow, [call for call, _ in pairs], [answer for _, answer in pairs]

    def test_against_the_slow_way(self):
        answered = {}
        for seed in range(160):
            slow, calls, expected = self.listed(seed)
            told = run(*calls)
            for place, call in enumerate(calls):
                self.assertEqual(told[place], expected[place], (seed, place, call))
                answered.setdefault(call[0], {}).setdefault(expected[place][0], []).append(seed)
            self.assert_kept_to_the_cent(slow, told[-1][1:])
        self.assert_all_seen(answered)

    def assert_kept_to_the_cent(self, slow, coins):
        paid = sum(slow.paid(ticket) for ticket in slow.tickets)
        self.assertEqual(worth(coins) - worth(slow.began_with), paid)

    def assert_all_seen(self, answered):
        """That the lists come to each answer that a list of 60 calls can come to."""
        seen = {1: (0, -2, -1, -6), 3: (0, -1), 4: (0, -1), 5: (0, -1), 6: (0, -1), 7: (0, 1, -1), 8: (0, -1),
                9: (0, -1, -4, -8), 10: (0, -4, -1, -7), 11: (0, -4), 12: (0, -4), 13: (0, -4),
                14: (0, -4, -1, -5, -6, -7, -8, -10), 15: (0, -4, -5), 16: (0, -4, -9), 17: (0, -4), 18: (0,), 19: (0,),
                20: (0,), 21: (0, -1, -8)}
        for call in seen:
            for answer in seen[call]:
                self.assertIn(answer, answered[call], call)


if __name__ == "__main__":
    unittest.main()
