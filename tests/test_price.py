"""Promises 2 and 4: the price is the least that covers the stay, the row costs it; longer never costs less."""
import random
import unittest

from tests.helper import (ANY, DAY, LATEST, WEEK, Product, bought, covers, fair, forward_price, full_weights, last,
                          least_of_all, lines, price, proof, random_case, row_numbers, run, slow_fair, slow_rests, slow_row, tariff,
                          ways)

HOUR = f"buy hour 100 60 {ANY}"
DEAR = f"buy dear 1000 60 {ANY}"


def costs(products, a, b, car=1, kind="", **head):
    answer = last(tariff(lines(*products, **head)), price(a, b, car, kind))
    return answer[1] if answer[0] == 0 and len(answer) == 2 else answer


def row_told(products, a, b, car=1, kind=""):
    answer = last(tariff(lines(*products)), bought(a, b, car, kind))
    if answer[0] != 0 or len(answer) != 3 + 4 * answer[2]:
        raise AssertionError(answer)
    chosen = [tuple(answer[k:k + 4]) for k in range(3, len(answer), 4)]
    return answer[1], chosen


class Lengths(unittest.TestCase):
    def test_of_no_minute(self):
        for a in (0, 77, DAY, LATEST):
            told = run(tariff(lines(HOUR)), price(a, a), bought(a, a), proof(a, a))
            self.assertEqual(told[1:], [[0, 0], [0, 0, 0], [0, 0, 0]])

    def test_free_minutes(self):
        for free in (0, 1, 15, 120):
            told = run(tariff(lines(HOUR, free=free)), price(5, 5 + free), price(5, 6 + free))
            self.assertEqual(told[1:], [[0, 0], [0, 300 if free == 120 else 100]])

    def test_row_and_proof_tell_the_rest_of_free_stays_too(self):
        told = run(tariff(lines(HOUR, free=120)), bought(5, 105), proof(5, 105), price(5, 105))
        self.assertEqual(told[1], [0, 200, 2, 0, 5, 65, 100, 0, 65, 125, 100])
        self.assertEqual(told[2][:2], [0, 200])
        self.assertEqual(told[3], [0, 0])

    def test_a_week_and_more(self):
        products = [f"buy day 700 1440 {ANY}"]
        for minutes, cents in ((WEEK - 1, 4900), (WEEK, 4900), (WEEK + 1, 4931), (WEEK + DAY, 4931),
                               (WEEK + DAY + 1, 4962), (WEEK + 2 * DAY, 4962), (WEEK + 2 * DAY + 1, 4993)):
            for a in (0, 1, 777):
                self.assertEqual(costs(products, a, a + minutes, lost=31), cents, minutes)
        self.assertEqual(costs(products, 0, LATEST, lost=31), 4900 + 31 * 3466)
        self.assertEqual(costs(products, 0, WEEK + 1, lost=0), 4900)

    def test_the_first_week_of_a_longer_stay_is_a_stay_of_its_own(self):
        products = [f"buy hour 10 60 {ANY}", "buy late 0 1440 1111111 1439 1440 4", f"buy long 1500 10080 {ANY} first"]
        for a in (0, 1000):
            week = costs(products, a, a + WEEK)
            self.assertEqual(costs(products, a, a + WEEK + 1, lost=7), week + 7)

    def test_longest_rows_and_proofs(self):
        told = run(tariff(lines(f"buy m 1 1 {ANY}")), bought(3, 3 + WEEK), bought(3, 4 + WEEK), proof(3, 3 + DAY),
                   proof(3, 4 + DAY))
        self.assertEqual(told[1], [0, WEEK, WEEK] + row_numbers([(0, 3 + m, 4 + m, 1) for m in range(WEEK)]))
        self.assertEqual(told[2], [-1])
        self.assertEqual(told[3], [0, DAY, DAY] + [x for m in range(3, 3 + DAY) for x in (m, 1)])
        self.assertEqual(told[4], [-1])

    def test_latest_minutes(self):
        told = run(tariff(lines(HOUR)), price(LATEST - 60, LATEST), bought(LATEST - 1, LATEST),
                   price(LATEST - 60, LATEST + 1), proof(LATEST - 1, LATEST), fair(LATEST - 1, [100]),
                   fair(LATEST - 1, [100, 0]))
        self.assertEqual(told[1:], [[0, 100], [0, 100, 1, 0, LATEST - 1, LATEST + 59, 100], [-1],
                                    [0, 100, 1, LATEST - 1, 100], [0, 100], [-1]])


class Products(unittest.TestCase):
    def test_by_weekday(self):
        for weekday in range(7):
            days = "".join("1" if d == weekday else "0" for d in range(7))
            products = [DEAR, f"buy x 1 60 {days} 0 1440 4"]
            for day in range(15):
                cents = 1 if day % 7 == weekday else 1000
                self.assertEqual(costs(products, day * DAY, day * DAY + 60), cents)
                self.assertEqual(costs(products, day * DAY + 1380, day * DAY + DAY), cents)

    def test_by_time_of_the_day(self):
        products = [DEAR, "buy x 1 10 1111111 600 660 4"]
        for begin, cents in ((599, 1000), (600, 1), (659, 1), (660, 1000), (600 + DAY, 1), (599 + 3 * DAY, 1000)):
            self.assertEqual(costs(products, begin, begin + 1), cents, begin)

    def test_by_class(self):
        for most in range(1, 5):
            products = [DEAR, f"buy x 1 60 1111111 0 1440 {most}"]
            for car in range(1, 5):
                self.assertEqual(costs(products, 0, 60, car), 1 if car <= most else 1000)

    def test_by_card(self):
        products = [DEAR, f"buy x 1 60 {ANY} card gold", f"buy y 2 60 {ANY} card silver1"]
        for kind, cents in (("", 1000), ("gold", 1), ("silver1", 2), ("golden", 1000), ("gol", 1000), ("a", 1000)):
            self.assertEqual(costs(products, 0, 60, 1, kind), cents, kind)
        self.assertEqual(costs([HOUR], 0, 60, 1, "gold"), 100)

    def test_a_card_called_first(self):
        products = [DEAR, f"buy x 1 60 {ANY} card first", f"buy y 2 60 {ANY} first card card"]
        self.assertEqual(costs(products, 0, 180, 1, "first"), 3)
        self.assertEqual(costs(products, 0, 120, 1, "card"), 1002)
        self.assertEqual(costs(products, 0, 60), 1000)

    def test_first_ones(self):
        products = [DEAR, f"buy x 1 60 {ANY} first"]
        self.assertEqual(row_told(products, 30, 150), (1001, [(1, 30, 90, 1), (0, 90, 150, 1000)]))
        products = [DEAR, "buy x 1 60 1111111 0 30 4 first"]
        self.assertEqual(costs(products, 29, 60), 1)
        self.assertEqual(costs(products, 30, 60), 1000)
        self.assertEqual(costs([DEAR, "buy x 1 60 1111111 31 32 4 first"], 30, 60), 1000)

    def test_till_a_time_of_the_day(self):
        products = [DEAR, f"flat x 1 420 {ANY}"]
        self.assertEqual(row_told(products, 0, 420), (1, [(1, 0, 420, 1)]))
        self.assertEqual(row_told(products, 419, 420), (1, [(1, 419, 420, 1)]))
        self.assertEqual(row_told(products, 420, 421), (1, [(1, 420, 420 + DAY, 1)]))
        self.assertEqual(row_told(products, 421, 420 + DAY), (1, [(1, 421, 420 + DAY, 1)]))
        self.assertEqual(row_told(products, 420, 421 + DAY),
                         (2, [(1, 420, 420 + DAY, 1), (1, 420 + DAY, 420 + 2 * DAY, 1)]))

    def test_till_midnight_and_the_minute_before(self):
        self.assertEqual(row_told([f"flat x 1 0 {ANY}"], 5, 6), (1, [(0, 5, DAY, 1)]))
        self.assertEqual(row_told([f"flat x 1 0 {ANY}"], DAY, DAY + 1), (1, [(0, DAY, 2 * DAY, 1)]))
        self.assertEqual(row_told([f"flat x 1 1439 {ANY}"], 1438, 1440), (2, [(0, 1438, 1439, 1), (0, 1439, 2879, 1)]))

    def test_products_begun_before_that_still_hold(self):
        products = [DEAR, "buy eve 300 600 1111111 1080 1140 4"]
        self.assertEqual(row_told(products, 1130, 1739), (600, [(1, 1130, 1730, 300), (1, 1139, 1739, 300)]))
        self.assertEqual(row_told(products, 1130, 1740), (1300, [(1, 1130, 1730, 300), (0, 1730, 1790, 1000)]))
        products = [f"buy m 3 2 {ANY}", "buy x 4 9 1111111 0 2 4"]
        self.assertEqual(row_told(products, 0, 10), (7, [(0, 0, 2, 3), (1, 1, 10, 4)]))
        self.assertEqual(row_told(products, 0, 9), (4, [(1, 0, 9, 4)]))
        self.assertEqual(row_told(products, 2, 6), (6, [(0, 2, 4, 3), (0, 4, 6, 3)]))

    def test_begun_on_an_earlier_day(self):
        products = [f"buy m 50 60 {ANY}", "buy x 60 1500 1000000 1400 1440 4"]
        cents, chosen = row_told(products, 1390, 2939)
        self.assertEqual((cents, chosen), (110, [(0, 1390, 1450, 50), (1, 1439, 2939, 60)]))

    def test_ends_may_stand_behind_the_stay(self):
        self.assertEqual(row_told([f"buy x 5 10080 {ANY}"], 9, 10), (5, [(0, 9, 10089, 5)]))

    def test_the_least_numbered_of_the_same(self):
        products = [DEAR, f"buy b 100 60 {ANY}", f"buy c 100 60 {ANY}", f"buy d 100 90 {ANY}"]
        self.assertEqual(row_told(products, 0, 60), (100, [(1, 0, 60, 100)]))
        self.assertEqual(row_told(products, 0, 61), (100, [(3, 0, 90, 100)]))
        self.assertEqual(row_told(products, 0, 150), (200, [(1, 0, 60, 100), (3, 60, 150, 100)]))
        self.assertEqual(row_told([f"buy a 200 120 {ANY}", HOUR], 0, 120), (200, [(0, 0, 120, 200)]))
        self.assertEqual(row_told([HOUR, f"buy a 200 120 {ANY}"], 0, 120), (200, [(0, 0, 60, 100), (0, 60, 120, 100)]))

    def test_products_for_nothing(self):
        products = ["buy gift 0 5 1111111 0 1 4", f"buy m 0 3 {ANY}", f"flat t 0 9 {ANY}"]
        self.assertEqual(row_told(products, 0, 9), (0, [(0, 0, 5, 0), (1, 5, 8, 0), (1, 8, 11, 0)]))
        self.assertEqual(costs(products, 0, WEEK), 0)

    def test_dearest(self):
        told = run(tariff(lines(f"buy m 99999 1 {ANY}", lost=99999)), price(0, WEEK), price(0, LATEST))
        self.assertEqual(told[1:], [[0, 99999 * WEEK], [0, 99999 * (WEEK + 3466)]])

    def test_twelve_products(self):
        products = [f"buy p{k} {100 - k} {60 - k} {ANY}" for k in range(12)]
        self.assertEqual(row_told(products, 0, 49), (89, [(11, 0, 49, 89)]))
        self.assertEqual(row_told(products, 0, 50), (90, [(10, 0, 50, 90)]))


class AgainstAllWays(unittest.TestCase):
    def test_small_stays(self):
        rng = random.Random(2026)
        tried = 0
        while tried < 150:
            products, a, b, car, kind = random_case(rng, 4, 1, 5)
            read = [Product(line) for line in products]
            all_ways = ways(read, a, b, car, kind)
            if len(all_ways) > 12:
                continue
            tried += 1
            least = least_of_all(all_ways, a, b)
            told = run(tariff(lines(*products)), price(a, b, car, kind), bought(a, b, car, kind), proof(a, b, car, kind))
            self.assertEqual([told[1][1], told[2][1], told[3][1]], [least] * 3, (products, a, b, car, kind))
            rests = [least_of_all(all_ways, x, b) for x in range(a, b)] + [0]
            self.assertEqual(full_weights(told[3], a, b), [rests[k] - rests[k + 1] for k in range(b - a)])

    def test_longer_stays_with_every_beginning(self):
        rng = random.Random(77)
        for _ in range(120):
            products, a, b, car, kind = random_case(rng, 12, 5, 70)
            read = [Product(line) for line in products]
            rests = slow_rests(read, a, b, car, kind)
            chosen = slow_row(read, rests, a, b, car, kind)
            told = run(tariff(lines(*products)), price(a, b, car, kind), bought(a, b, car, kind), proof(a, b, car, kind))
            self.assertEqual(told[1], [0, rests[a]], (products, a, b, car, kind))
            self.assertEqual(told[2], [0, rests[a], len(chosen)] + row_numbers(chosen), (products, a, b, car, kind))
            weights = [(m, rests[m] - rests[m + 1]) for m in range(a, b) if rests[m] > rests[m + 1]]
            self.assertEqual(told[3], [0, rests[a], len(weights)] + row_numbers(weights))


class Certificates(unittest.TestCase):
    """A row that covers the stay and fair weights of the same sum: then none costs less, whoever found them."""

    PRODUCTS = [
        f"buy hour 220 60 {ANY}", "flat night 400 420 1111111 1080 1440 4", "flat early 900 1200 1111100 360 540 2 first",
        "buy weekend 1500 2880 0000010 0 720 3", "flat home 250 600 1111100 960 1320 4 card resident",
        f"buy quarter 60 15 {ANY}", "buy lunch 100 90 1111100 690 780 4", f"buy day 1800 1440 {ANY}",
        f"buy start 0 20 {ANY} first card resident", "flat noon 330 720 0101011 0 719 1"]

    def assert_proved(self, a, b, car, kind):
        read = [Product(line) for line in self.PRODUCTS]
        told = run(tariff(lines(*self.PRODUCTS)), bought(a, b, car, kind), proof(a, b, car, kind), price(a, b, car, kind))
        cents = told[1][1]
        chosen = [tuple(told[1][k:k + 4]) for k in range(3, len(told[1]), 4)]
        for number, begin, end, cost in chosen:
            self.assertTrue(read[number].may_begin(begin, a, b, car, kind))
            self.assertEqual((end, cost), (read[number].end(begin), read[number].cents))
        self.assertTrue(covers([(c, s, e) for _, s, e, c in chosen], a, b))
        self.assertEqual(sum(cost for _, _, _, cost in chosen), cents)
        weights = full_weights(told[2], a, b)
        self.assertEqual((told[2][1], sum(weights), told[3]), (cents, cents, [0, cents]))
        self.assertIsNone(slow_fair(read, weights, a, car, kind))
        self.assertEqual(last(tariff(lines(*self.PRODUCTS)), fair(a, weights, car, kind)), [0, cents])

    def test_stays_to_a_day(self):
        rng = random.Random(5)
        for _ in range(25):
            a = rng.randrange(0, 3 * WEEK)
            self.assert_proved(a, a + rng.randrange(1, DAY + 1), rng.randrange(1, 5), rng.choice(["", "resident"]))

    def test_stays_of_days(self):
        rng = random.Random(6)
        read = [Product(line) for line in self.PRODUCTS]
        for minutes in (DAY + 1, 4000, 7777, WEEK - 1, WEEK):
            a = rng.randrange(0, 3 * WEEK)
            car = rng.randrange(1, 5)
            kind = rng.choice(["", "resident"])
            told = run(tariff(lines(*self.PRODUCTS)), price(a, a + minutes, car, kind), bought(a, a + minutes, car, kind))
            cents = forward_price(read, a, a + minutes, car, kind)
            self.assertEqual((told[1], told[2][1]), ([0, cents], cents))
            chosen = [tuple(told[2][k:k + 4]) for k in range(3, len(told[2]), 4)]
            reached = a
            for number, begin, end, cost in chosen:
                self.assertTrue(read[number].may_begin(begin, a, a + minutes, car, kind))
                self.assertEqual((end, cost), (read[number].end(begin), read[number].cents))
                self.assertTrue(begin <= reached < end)
                reached = end
            self.assertGreaterEqual(reached, a + minutes)
            self.assertEqual((sum(c for _, _, _, c in chosen), len(chosen)), (cents, told[2][2]))


class LongerAndLater(unittest.TestCase):
    """Promise 4."""

    def test_longer_never_costs_less(self):
        a = 2 * DAY + 500
        for step, count in ((1, 59), (97, 59), (DAY // 2, 30)):
            calls = [price(a, a + k * step, 2, "resident") for k in range(count)]
            told = run(tariff(lines(*Certificates.PRODUCTS, free=17, lost=40)), *calls)
            cents = [answer[1] for answer in told[1:]]
            self.assertEqual(cents, sorted(cents))
            self.assertLess(cents[0], cents[-1])

    def test_a_week_later_it_costs_the_same(self):
        rng = random.Random(11)
        for _ in range(12):
            a = rng.randrange(0, WEEK)
            minutes = rng.choice([rng.randrange(0, 3000), rng.randrange(WEEK - 3, WEEK + 5000)])
            calls = [price(a + k * WEEK, a + k * WEEK + minutes, 2, "resident") for k in (0, 1, 2, 400)]
            told = run(tariff(lines(*Certificates.PRODUCTS, free=17, lost=40)), *calls)
            self.assertEqual(told[2:], [told[1]] * 3)


class Refused(unittest.TestCase):
    WRONG = [(5, 4, 1, ""), (0, LATEST + 1, 1, ""), (LATEST + 1, LATEST + 1, 1, ""), (LATEST + 1, LATEST, 1, ""),
             (4294967295, 4294967295, 1, ""), (0, 4294967295, 1, ""), (4294967295, 0, 1, ""), (0, 1, 0, ""),
             (0, 1, 5, ""), (0, 1, 4294967295, ""), (0, 1, 1, "A"), (0, 1, 1, "1a"), (0, 1, 1, "a b"), (0, 1, 1, " "),
             (0, 1, 1, "abcdefghijklm"), (0, 1, 1, "a\n"), (0, 1, 1, "\x00"), (0, 1, 1, "a\u00e9"), (0, 1, 1, "?"),
             (0, 1, 1, "a" * 40), (0, 0, 0, ""), (0, 0, 1, "-")]

    def test_refused(self):
        for a, b, car, kind in self.WRONG:
            told = run(tariff(lines(HOUR)), price(a, b, car, kind), bought(a, b, car, kind), proof(a, b, car, kind),
                       price(0, 1))
            self.assertEqual(told[1:], [[-1], [-1], [-1], [0, 100]], (a, b, car, kind))

    def test_just_right(self):
        for a, b, car, kind in ((5, 5, 1, ""), (0, 1, 4, ""), (0, 1, 1, "a"), (0, 1, 1, "abcdefghijkl"),
                                (0, 1, 1, "z99999999999")):
            told = run(tariff(lines(HOUR)), price(a, b, car, kind), bought(a, b, car, kind), proof(a, b, car, kind))
            self.assertEqual([answer[0] for answer in told], [0, 0, 0, 0])


if __name__ == "__main__":
    unittest.main()
