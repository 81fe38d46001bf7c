"""Promise 6: change is exact, of the fewest coins, and refused only where there's none."""
import random
import unittest
from itertools import product

from tests.helper import ANY, CENTS, change, eight, held, last, lines, one_by_one, run, tariff, worth

TEXT = lines(f"buy m 1 1 {ANY}")


def told(coins, x):
    return last(tariff(TEXT, coins), change(x))


def all_changes(coins):
    """For each sum that coins come to the change, found by going through all that can be taken of them."""
    found = {}
    for taken in product(*[range(count + 1) for count in coins]):
        rank = (sum(taken), tuple(-count for count in reversed(taken)))
        x = worth(taken)
        if x not in found or rank < found[x][0]:
            found[x] = (rank, list(taken))
    return {x: found[x][1] for x in found}


class Change(unittest.TestCase):
    def assert_changes(self, coins, expected, sums):
        for place in range(0, len(sums), 58):
            some = sums[place:place + 58]
            answers = run(tariff(TEXT, coins), *[change(x) for x in some], held())
            self.assertEqual(answers[-1], [0] + coins)
            for x, answer in zip(some, answers[1:-1]):
                self.assertEqual(answer, [0] + expected[x] if x in expected else [-8], (coins, x))

    def test_one_coin(self):
        for cents in CENTS:
            self.assertEqual(told([1] * 8, cents), [0] + eight({cents: 1}))
            self.assertEqual(told(eight({cents: 1}), cents), [0] + eight({cents: 1}))
            self.assertEqual(told(eight({cents: 1}), cents - 1), [-8] if cents > 1 else [0] + [0] * 8)
            self.assertEqual(told(eight({cents: 1}), cents + 1), [-8])

    def test_where_the_greatest_coin_first_would_fail(self):
        self.assertEqual(told(eight({2: 3, 5: 1}), 6), [0] + eight({2: 3}))
        self.assertEqual(told(eight({20: 3, 50: 1}), 60), [0] + eight({20: 3}))
        self.assertEqual(told(eight({200: 2, 50: 1, 20: 8, 100: 1}), 360), [0] + eight({200: 1, 100: 1, 20: 3}))
        self.assertEqual(told(eight({2: 4, 5: 1}), 8), [0] + eight({2: 4}))

    def test_where_the_greatest_coin_first_would_take_more(self):
        self.assertEqual(told(eight({20: 3, 50: 1, 1: 10}), 60), [0] + eight({20: 3}))
        self.assertEqual(told(eight({2: 3, 5: 1, 1: 40}), 6), [0] + eight({5: 1, 1: 1}))
        self.assertEqual(told(eight({20: 4, 50: 1, 2: 9, 1: 9}), 80), [0] + eight({20: 4}))

    def test_of_several_the_one_with_most_of_the_greatest(self):
        self.assertEqual(told(eight({20: 3, 50: 1, 5: 2}), 60), [0] + eight({50: 1, 5: 2}))
        self.assertEqual(told(eight({2: 3, 5: 1, 1: 1}), 6), [0] + eight({5: 1, 1: 1}))
        self.assertEqual(told(eight({200: 1, 5: 2, 20: 8, 50: 3, 10: 1}), 210), [0] + eight({200: 1, 10: 1}))
        self.assertEqual(told(eight({20: 6, 50: 2, 5: 4}), 120), [0] + eight({50: 2, 20: 1}))
        self.assertEqual(told(eight({20: 6, 50: 1, 5: 4}), 120), [0] + eight({50: 1, 20: 3, 5: 2}))

    def test_nought(self):
        for coins in ([0] * 8, [40] * 8, [1] * 8):
            self.assertEqual(told(coins, 0), [0] + [0] * 8)

    def test_a_thousand_and_more(self):
        self.assertEqual(told([40] * 8, 1000), [0] + eight({200: 5}))
        self.assertEqual(told(eight({100: 4, 20: 40}), 1000), [0] + eight({100: 4, 20: 30}))
        for x in (1001, 1002, 4294967295):
            self.assertEqual(told([40] * 8, x), [-1])
            self.assertEqual(told([0] * 8, x), [-1])

    def test_none(self):
        for x in (1, 2, 200, 999, 1000):
            self.assertEqual(told([0] * 8, x), [-8])
        self.assertEqual(told(eight({1: 40}), 41), [-8])
        self.assertEqual(told(eight({1: 40}), 40), [0] + eight({1: 40}))
        self.assertEqual(told(eight({2: 40, 10: 40}), 33), [-8])
        self.assertEqual(told(eight({2: 40, 5: 1}), 3), [-8])
        self.assertEqual(told(eight({100: 40, 1: 9}), 10), [-8])

    def test_against_all_ways(self):
        rng = random.Random(2101)
        cases = [[0, 3, 1, 0, 0, 0, 0, 0], [10, 0, 0, 0, 3, 1, 0, 0], [2] * 8, [1, 2, 3, 1, 4, 2, 1, 1], [0, 4, 3, 0, 4, 3, 0, 2]]
        for _ in range(8):
            cases.append([rng.choice((0, 0, 1, 2, 3, 4)) for _ in range(8)])
        for coins in cases:
            expected = all_changes(coins)
            sums = list(range(0, 1001)) if len(expected) < 300 else sorted(rng.sample(range(1001), 300))
            self.assert_changes(coins, expected, sums)

    def test_both_slow_ways_agree(self):
        rng = random.Random(2102)
        for _ in range(5):
            coins = [rng.randrange(0, 4) for _ in range(8)]
            expected = all_changes(coins)
            self.assertEqual(one_by_one(coins, 1000), {x: expected[x] for x in expected if x <= 1000})

    def test_many_coins(self):
        rng = random.Random(2103)
        for _ in range(6):
            coins = [rng.choice((0, 1, 3, 12, 40)) for _ in range(8)]
            self.assert_changes(coins, one_by_one(coins, 1000), rng.sample(range(1001), 58))
        self.assert_changes([40] * 8, one_by_one([40] * 8, 1000), [*range(30), *range(973, 1001)])


if __name__ == "__main__":
    unittest.main()
