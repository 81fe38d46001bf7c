"""Promise 5: the best order of a ticket's vouchers, told by best and taken by arrange."""
import random
import unittest
from itertools import permutations

from tests.helper import ANY, arrange, best, clock, eight, enter, last, leave, lines, lost, owes, pay, run, shown
from tests.helper import tariff, voucher

BEGUN = tariff(lines(f"buy m 1 1 {ANY}", grace=10, lost=500))


def with_vouchers(minutes, vouchers):
    """A ticket that costs a cent for each of its minutes."""
    return [BEGUN, clock(7), enter(), *[voucher(0, *v) for v in vouchers], clock(7 + minutes)]


def told(minutes, *vouchers):
    return last(*with_vouchers(minutes, vouchers), best(0))


def base(minutes, vouchers):
    return minutes - min(minutes, sum(n for kind, n in vouchers if kind == 0))


def left(cents, vouchers):
    for kind, n in vouchers:
        if kind == 1:
            cents = cents - cents * n // 100
        if kind == 2:
            cents = cents - n if cents > n else 0
    return cents


def slow_best(cents, vouchers):
    """Of all orders what's left and the order, the least first."""
    return min((left(cents, [vouchers[k] for k in order]), order) for order in permutations(range(len(vouchers))))


def random_vouchers(rng, minutes):
    kinds = [rng.choice((0, 1, 1, 1, 2, 2)) for _ in range(rng.randrange(0, 4))]
    most = {0: minutes // 3 + 1, 1: 100, 2: rng.choice((3, minutes // 2 + 1, minutes + 5))}
    return [(kind, rng.randrange(1, most[kind] + 1)) for kind in kinds]


class Best(unittest.TestCase):
    def test_no_voucher(self):
        self.assertEqual(told(1000), [0, 1000])
        self.assertEqual(told(0), [0, 0])

    def test_one(self):
        self.assertEqual(told(1000, (0, 400)), [0, 600, 0])
        self.assertEqual(told(1000, (1, 15)), [0, 850, 0])
        self.assertEqual(told(1000, (2, 30)), [0, 970, 0])

    def test_two(self):
        self.assertEqual(told(1000, (2, 100), (1, 50)), [0, 400, 1, 0])
        self.assertEqual(told(1000, (1, 50), (2, 100)), [0, 400, 0, 1])

    def test_three(self):
        self.assertEqual(told(1000, (2, 100), (2, 50), (1, 50)), [0, 350, 2, 0, 1])
        self.assertEqual(told(1000, (2, 100), (1, 50), (1, 10)), [0, 350, 1, 2, 0])
        self.assertEqual(told(1000, (1, 50), (2, 100), (1, 10)), [0, 350, 0, 2, 1])

    def test_of_all_three_kinds(self):
        self.assertEqual(told(1000, (2, 100), (0, 500), (1, 50)), [0, 150, 1, 2, 0])
        self.assertEqual(told(1000, (2, 100), (1, 50), (0, 500)), [0, 150, 1, 0, 2])
        self.assertEqual(told(1000, (0, 500), (2, 100), (1, 50)), [0, 150, 0, 2, 1])
        for order in permutations([(0, 500), (1, 50), (2, 100)]):
            self.assertEqual(told(1000, *order)[1], 150)

    def test_the_first_of_several(self):
        for pair in ([(2, 10), (2, 20)], [(0, 10), (1, 20)], [(1, 20), (0, 10)], [(2, 99), (0, 1)], [(1, 100), (2, 1)],
                     [(2, 1), (1, 100)], [(1, 50), (1, 50)], [(2, 1000), (1, 1)]):
            self.assertEqual(told(1000, *pair)[2:], [0, 1], pair)
        self.assertEqual(told(1000, (0, 5), (0, 6), (0, 7)), [0, 982, 0, 1, 2])
        self.assertEqual(told(1000, (2, 100), (1, 50), (2, 100)), [0, 300, 1, 0, 2])

    def test_hundredths_that_round_down(self):
        self.assertEqual(told(1, (1, 99)), [0, 1, 0])
        self.assertEqual(told(23, (1, 30), (1, 70)), [0, 5, 1, 0])
        self.assertEqual(told(27, (1, 30), (1, 70)), [0, 6, 0, 1])
        self.assertEqual(told(5, (1, 50), (1, 33)), [0, 2, 1, 0])
        self.assertEqual(told(23, (2, 1), (1, 30), (1, 70)), [0, 4, 2, 1, 0])
        # Rounding makes up for the order here: either way 1 is left, so the first order is told.
        self.assertEqual(told(3, (2, 1), (1, 50)), [0, 1, 0, 1])

    def test_cents_that_would_go_below_nought(self):
        self.assertEqual(told(100, (2, 99999), (1, 50)), [0, 0, 0, 1])
        self.assertEqual(told(100, (2, 60), (1, 50)), [0, 0, 1, 0])
        self.assertEqual(told(100, (2, 60), (2, 60)), [0, 0, 0, 1])
        self.assertEqual(told(0, (2, 60), (1, 60)), [0, 0, 0, 1])

    def test_by_the_base_of_now(self):
        begun = [BEGUN, enter(), voucher(0, 1, 30), voucher(0, 1, 70)]
        answers = run(*begun, clock(23), best(0), clock(27), best(0), clock(33), best(0))
        self.assertEqual([answers[k] for k in (5, 7, 9)], [[0, 5, 1, 0], [0, 6, 0, 1], [0, 7, 1, 0]])

    def test_of_a_lost_one_by_its_base(self):
        begun = with_vouchers(200, [(2, 10), (0, 100), (1, 50)])
        self.assertEqual(last(*begun, lost(0), best(0)), [0, 40, 1, 2, 0])
        self.assertEqual(last(*begun, lost(0), owes(0)), [0, 500, 500, 0])

    def test_what_has_been_paid_stays_out_of_it(self):
        begun = with_vouchers(200, [(2, 100)])
        self.assertEqual(last(*begun, pay(0, eight({100: 1})), best(0)), [0, 100, 0])

    def test_no_such_ticket(self):
        self.assertEqual(run(BEGUN, best(0), enter(), best(1), best(4294967295), leave(0), best(0))[1:],
                         [[-4], [0, 0], [-4], [-4], [0], [-4]])

    def test_asking_changes_nothing(self):
        answers = run(*with_vouchers(1000, [(2, 100), (1, 50)]), shown(0), owes(0), best(0), best(0), shown(0), owes(0))
        self.assertEqual(answers[-4], answers[-3])
        self.assertEqual(answers[-6:-4], answers[-2:])

    def test_against_all_orders(self):
        rng = random.Random(1201)
        for _ in range(300):
            minutes = rng.choice((rng.randrange(0, 60), rng.randrange(0, 2000)))
            vouchers = random_vouchers(rng, minutes)
            least, order = slow_best(base(minutes, vouchers), vouchers)
            self.assertEqual(told(minutes, *vouchers), [0, least, *order], (minutes, vouchers))

    def test_one_best_order_has_all_hundredths_before_all_cents(self):
        rng = random.Random(1202)
        for _ in range(300):
            minutes = rng.randrange(0, 90)
            vouchers = random_vouchers(rng, minutes)
            parted = [order for order in permutations(vouchers) if [k for k, _ in order] == sorted(k for k, _ in order)]
            least = min(left(base(minutes, vouchers), order) for order in parted)
            self.assertEqual(told(minutes, *vouchers)[1], least, (minutes, vouchers))


class Arrange(unittest.TestCase):
    def test_the_order_afterwards(self):
        answers = run(*with_vouchers(1000, [(2, 100), (0, 500), (1, 50)]), owes(0), arrange(0), shown(0), owes(0), best(0))
        self.assertEqual(answers[-5:], [[0, 200, 200, 0], [0], [0, 1, 0, 7, 0, 0, 0, 3, 0, 500, 1, 50, 2, 100],
                                        [0, 150, 150, 0], [0, 150, 0, 1, 2]])

    def test_all_three_come_elsewhere(self):
        answers = run(*with_vouchers(23, [(2, 1), (1, 30), (1, 70)]), best(0), arrange(0), shown(0), owes(0))
        self.assertEqual(answers[-4:], [[0, 4, 2, 1, 0], [0], [0, 1, 0, 7, 0, 0, 0, 3, 1, 70, 1, 30, 2, 1], [0, 4, 4, 0]])
        answers = run(*with_vouchers(1000, [(2, 100), (2, 50), (1, 50)]), best(0), arrange(0), shown(0), best(0))
        self.assertEqual(answers[-4:], [[0, 350, 2, 0, 1], [0], [0, 1, 0, 7, 0, 0, 0, 3, 1, 50, 2, 100, 2, 50],
                                        [0, 350, 0, 1, 2]])

    def test_nothing_to_arrange(self):
        for vouchers in ([], [(0, 5)], [(1, 5)], [(2, 5)], [(1, 50), (2, 5)], [(2, 5), (2, 4)], [(2, 5), (0, 4)]):
            answers = run(*with_vouchers(100, vouchers), shown(0), owes(0), arrange(0), shown(0), owes(0))
            self.assertEqual(answers[-3], [0])
            self.assertEqual(answers[-5:-3], answers[-2:], vouchers)

    def test_the_order_stays_when_the_base_is_another(self):
        begun = [BEGUN, enter(), voucher(0, 1, 30), voucher(0, 1, 70), clock(23), arrange(0), owes(0), clock(27), owes(0),
                 best(0), arrange(0), owes(0)]
        self.assertEqual(run(*begun)[6:], [[0, 5, 5, 0], [0], [0, 7, 7, 0], [0, 6, 1, 0], [0], [0, 6, 6, 0]])

    def test_another_voucher_stands_behind(self):
        answers = run(*with_vouchers(1000, [(2, 100), (1, 50)]), arrange(0), voucher(0, 1, 10), owes(0), best(0), arrange(0),
                      owes(0), voucher(0, 2, 1))
        self.assertEqual(answers[-6:], [[0], [0, 360, 360, 0], [0, 350, 0, 2, 1], [0], [0, 350, 350, 0], [-7]])

    def test_of_a_lost_one_by_its_base(self):
        answers = run(*with_vouchers(100, [(2, 10), (1, 50)]), lost(0), arrange(0), shown(0), owes(0))
        self.assertEqual(answers[-3:], [[0], [0, 1, 0, 7, 0, 1, 0, 2, 1, 50, 2, 10], [0, 500, 500, 0]])

    def test_behind_a_payment(self):
        answers = run(*with_vouchers(100, [(2, 10), (1, 50)]), pay(0, eight({5: 1, 20: 2})), arrange(0), shown(0), owes(0),
                      clock(118), owes(0))
        self.assertEqual(answers[-5:], [[0], [0, 1, 0, 7, 45, 0, 108, 2, 1, 50, 2, 10], [0, 0, 40, 45], [0], [0, 1, 46, 45]])

    def test_no_other_ticket(self):
        answers = run(BEGUN, enter(), enter(), *[voucher(k, *v) for k in (0, 1) for v in ((2, 100), (1, 50))], clock(1000),
                      arrange(1), owes(0), owes(1))
        self.assertEqual(answers[-2:], [[0, 450, 450, 0], [0, 400, 400, 0]])

    def test_no_such_ticket(self):
        self.assertEqual(run(BEGUN, arrange(0), enter(), arrange(1), arrange(4294967295), leave(0), arrange(0))[1:],
                         [[-4], [0, 0], [-4], [-4], [0], [-4]])

    def test_never_dearer(self):
        rng = random.Random(1301)
        for _ in range(100):
            minutes = rng.randrange(0, 300)
            vouchers = random_vouchers(rng, minutes)
            answers = run(*with_vouchers(minutes, vouchers), owes(0), best(0), arrange(0), owes(0), best(0))
            self.assertLessEqual(answers[-2][2], answers[-5][2])
            self.assertEqual(answers[-2][2], answers[-4][1])
            self.assertEqual(answers[-1], [0, answers[-4][1], *range(len(vouchers))])


if __name__ == "__main__":
    unittest.main()
