"""Promise 3: the weights that are told are fair and come to the rest; no fair ones come to more."""
import random
import unittest

from tests.helper import (ANY, DAY, LATEST, Product, fair, full_weights, last, lines, proof, random_case, run,
                          slow_fair, tariff)

HOUR = f"buy hour 100 60 {ANY}"


def judged(products, a, weights, car=1, kind=""):
    return last(tariff(lines(*products)), fair(a, weights, car, kind))


class Proof(unittest.TestCase):
    def test_weights_of_one_product(self):
        for minutes, told in ((1, [0, 100, 1, 7, 100]), (60, [0, 100, 1, 66, 100]),
                              (61, [0, 200, 2, 7, 100, 67, 100]), (120, [0, 200, 2, 66, 100, 126, 100])):
            self.assertEqual(last(tariff(lines(HOUR)), proof(7, 7 + minutes)), told)

    def test_minutes_rise_and_weights_are_above_nought(self):
        told = last(tariff(lines(HOUR, f"buy q 30 15 {ANY}", "flat n 5 420 1111111 400 410 4")), proof(380, 380 + DAY))
        self.assertEqual(len(told), 3 + 2 * told[2])
        self.assertEqual(told[3::2], sorted(set(told[3::2])))
        self.assertTrue(all(380 <= m < 380 + DAY for m in told[3::2]))
        self.assertTrue(all(weight > 0 for weight in told[4::2]))
        self.assertEqual(sum(told[4::2]), told[1])

    def test_told_weights_are_fair_and_one_more_is_not(self):
        rng = random.Random(303)
        for _ in range(80):
            products, a, b, car, kind = random_case(rng, 12, 1, 50)
            read = [Product(line) for line in products]
            begun = tariff(lines(*products))
            told = last(begun, proof(a, b, car, kind))
            weights = full_weights(told, a, b)
            self.assertEqual(sum(weights), told[1])
            self.assertIsNone(slow_fair(read, weights, a, car, kind), (products, a, b, car, kind))
            self.assertEqual(last(begun, fair(a, weights, car, kind)), [0, told[1]])
            for m in range(b - a):
                more = weights[:m] + [weights[m] + 1] + weights[m + 1:]
                wrong = slow_fair(read, more, a, car, kind)
                self.assertIsNotNone(wrong, "fair weights that come to more")
                self.assertEqual(last(begun, fair(a, more, car, kind)), [1] + wrong)


class Fair(unittest.TestCase):
    def test_no_weights(self):
        for a in (0, 7, LATEST):
            self.assertEqual(judged([HOUR], a, []), [0, 0])
        self.assertEqual(judged([HOUR], LATEST + 1, []), [-1])

    def test_just_fair(self):
        self.assertEqual(judged([HOUR], 5, [100] + [0] * 59 + [100]), [0, 200])
        self.assertEqual(judged([HOUR], 5, [100] + [0] * 58 + [1]), [1, 0, 5])
        self.assertEqual(judged([HOUR], 5, [99] + [0] * 58 + [1]), [0, 100])
        self.assertEqual(judged([HOUR], 5, [101]), [1, 0, 5])
        self.assertEqual(judged([HOUR], 5, [0, 0, 101]), [1, 0, 5])
        self.assertEqual(judged([HOUR], 5, [0] * 60 + [101]), [1, 0, 6])

    def test_the_least_numbered_product_and_its_first_minute(self):
        products = [f"buy b 300 60 {ANY}", HOUR, f"buy c 10 60 {ANY}"]
        self.assertEqual(judged(products, 0, [11]), [1, 2, 0])
        self.assertEqual(judged(products, 0, [0] * 100 + [101]), [1, 1, 41])
        self.assertEqual(judged(products, 0, [11] + [0] * 99 + [101]), [1, 1, 41])
        self.assertEqual(judged(products, 0, [11] + [0] * 99 + [301]), [1, 0, 41])

    def test_only_where_it_may_be_begun(self):
        dear = f"buy dear 99999 60 {ANY}"
        self.assertEqual(judged([dear, "buy x 1 10 1111111 3 4 4"], 0, [9, 9, 9, 1, 0, 0]), [0, 28])
        self.assertEqual(judged([dear, "buy x 1 10 1111111 3 4 4"], 0, [9, 9, 9, 1, 1, 0]), [1, 1, 3])
        self.assertEqual(judged([dear, "buy x 1 10 0100000 0 1440 4"], 1438, [9, 9, 1, 0]), [0, 19])
        self.assertEqual(judged([dear, "buy x 1 10 0100000 0 1440 4"], 1438, [9, 9, 1, 1]), [1, 1, 1440])
        self.assertEqual(judged([dear, f"buy x 1 2 {ANY} first"], 4, [1, 0, 9, 9]), [0, 19])
        self.assertEqual(judged([dear, f"buy x 1 2 {ANY} first"], 4, [1, 1, 9, 9]), [1, 1, 4])
        self.assertEqual(judged([dear, "buy x 1 2 1111111 0 1440 2"], 4, [9], 3), [0, 9])
        self.assertEqual(judged([dear, "buy x 1 2 1111111 0 1440 2"], 4, [9], 2), [1, 1, 4])
        self.assertEqual(judged([dear, f"buy x 1 2 {ANY} card a"], 4, [9], 2, "b"), [0, 9])
        self.assertEqual(judged([dear, f"buy x 1 2 {ANY} card a"], 4, [9], 2), [0, 9])
        self.assertEqual(judged([dear, f"buy x 1 2 {ANY} card a"], 4, [9], 2, "a"), [1, 1, 4])

    def test_till_a_time_of_the_day(self):
        products = [f"flat x 10 3 {ANY}"]
        self.assertEqual(judged(products, 0, [4, 3, 3, 10, 0, 0]), [0, 20])
        self.assertEqual(judged(products, 0, [4, 3, 3, 10, 0, 1]), [1, 0, 3])
        self.assertEqual(judged(products, 0, [4, 4, 3, 10, 0, 1]), [1, 0, 0])

    def test_products_for_nothing(self):
        self.assertEqual(judged([f"buy x 0 2 {ANY}"], 0, [0, 0, 0]), [0, 0])
        self.assertEqual(judged([f"buy x 0 2 {ANY}"], 0, [0, 0, 1]), [1, 0, 1])

    def test_bounds(self):
        minute = f"buy m 99999 1 {ANY}"
        self.assertEqual(judged([minute], 0, [99999] * 1440), [0, 99999 * 1440])
        self.assertEqual(judged([minute], 0, [0] * 1441), [-1])
        self.assertEqual(judged([minute], 0, [0] * 1500), [-1])
        self.assertEqual(judged([minute], 0, [0, 100000]), [-1])
        self.assertEqual(judged([minute], 0, [4294967295]), [-1])
        self.assertEqual(judged([minute], LATEST - 1440, [1] * 1440), [0, 1440])
        self.assertEqual(judged([minute], LATEST - 1439, [1] * 1440), [-1])
        self.assertEqual(judged([minute], 4294967295, [1]), [-1])
        for car, kind in ((0, ""), (5, ""), (4294967295, ""), (1, "A"), (1, "9"), (1, "abcdefghijklm"), (1, "a ")):
            self.assertEqual(judged([minute], 0, [1], car, kind), [-1])
            self.assertEqual(judged([minute], 0, [], car, kind), [-1])

    def test_random_weights(self):
        rng = random.Random(404)
        seen = {0: 0, 1: 0}
        for _ in range(150):
            products, a, b, car, kind = random_case(rng, 12, 1, 40)
            read = [Product(line) for line in products]
            weights = [rng.choice([0, 0, 0, 0, 0, 1, 2]) for _ in range(b - a)]
            wrong = slow_fair(read, weights, a, car, kind)
            told = judged(products, a, weights, car, kind)
            self.assertEqual(told, [0, sum(weights)] if wrong is None else [1] + wrong)
            seen[told[0]] += 1
        self.assertGreater(min(seen.values()), 10)

    def test_the_proof_of_a_day(self):
        products = [HOUR, "flat n 250 420 1111111 1080 1440 4", f"buy d 900 1440 {ANY}"]
        begun = tariff(lines(*products))
        told = run(begun, proof(1000, 1000 + DAY))
        weights = full_weights(told[1], 1000, 1000 + DAY)
        self.assertEqual(last(begun, fair(1000, weights)), [0, told[1][1]])


if __name__ == "__main__":
    unittest.main()
