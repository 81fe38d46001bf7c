"""Coins: what they come to, and change of the fewest."""

CENTS = (1, 2, 5, 10, 20, 50, 100, 200)
# More coins than the machine and whoever pays ever have together.
TOO_MANY = 10000


def worth_of(coins):
    return sum([cents * count for cents, count in zip(CENTS, coins)])


# The fewest coins of the first so many kinds that come to x; TOO_MANY or more, if none do. What's known already is
# kept for these coins, as the greater kinds leave the same sums over and over.
def fewest(coins, kinds, x, known):
    if kinds == 1:
        return x if x <= coins[0] else TOO_MANY
    if (kinds, x) not in known:
        cents = CENTS[kinds - 1]
        most = min(coins[kinds - 1], x // cents)
        known[(kinds, x)] = min([n + fewest(coins, kinds - 1, x - n * cents, known) for n in range(most + 1)])
    return known[(kinds, x)]


# How many of the greatest of these kinds are in the change of x.
def count_in_change(coins, kinds, x, known):
    cents = CENTS[kinds - 1]
    count = min(coins[kinds - 1], x // cents)
    while count + fewest(coins, kinds - 1, x - count * cents, known) > fewest(coins, kinds, x, known):
        count -= 1
    return count


def change_of(coins, x):
    known = {}
    if fewest(coins, len(CENTS), x, known) >= TOO_MANY:
        return None
    change = []
    left = x
    for kinds in range(len(CENTS), 1, -1):
        count = count_in_change(coins, kinds, left, known)
        change.insert(0, count)
        left -= count * CENTS[kinds - 1]
    return [left] + change
