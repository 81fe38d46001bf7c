"""Promise 5: season cards, tickets, vouchers, and what a ticket owes before it has paid or is told lost."""
import random
import unittest

from tests.helper import ANY, DAY, clock, enter, last, lines, owes, price, run, season, tariff, voucher

HOUR = f"buy hour 100 60 {ANY}"
MINUTE = f"buy m 1 1 {ANY}"
BEGUN = tariff(lines(HOUR))
ONE_CENT_A_MINUTE = tariff(lines(MINUTE))


def due(minutes, *vouchers, begun=ONE_CENT_A_MINUTE, begin=0):
    """What a ticket owes after so many minutes; nothing has been paid, so that's all that's due."""
    told = last(begun, clock(begin), enter(), *[voucher(0, *v) for v in vouchers], clock(begin + minutes), owes(0))
    if told[0] != 0 or told[1] != told[2] or told[3] != 0 or len(told) != 4:
        raise AssertionError(told)
    return told[1]


class Season(unittest.TestCase):
    def test_numbers_from_nought(self):
        told = run(BEGUN, season(0, 0, "a"), season(3472, 3472, "abcdefghijkl"), season(0, 3472, "a"))
        self.assertEqual(told[1:], [[0, 0], [0, 1], [0, 2]])

    def test_refused(self):
        for first, final, kind in ((1, 0, "a"), (0, 3473, "a"), (3473, 3473, "a"), (0, 4294967295, "a"),
                                   (4294967295, 0, "a"), (0, 0, ""), (0, 0, "A"), (0, 0, "1"), (0, 0, "abcdefghijklm"),
                                   (0, 0, "a b"), (0, 0, "a\n")):
            self.assertEqual(run(BEGUN, season(first, final, kind), enter(1, 1), season(0, 0))[1:], [[-1], [-4], [0, 0]])

    def test_thirty_two_at_most(self):
        told = run(BEGUN, *[season(k, k) for k in range(32)], season(0, 0), season(1, 0), season(0, 0, ""), enter(1, 32),
                   enter(1, 33))
        self.assertEqual(told[1:33], [[0, k] for k in range(32)])
        self.assertEqual(told[33:], [[-7], [-1], [-1], [0, 0], [-4]])


class Enter(unittest.TestCase):
    def test_numbers_from_nought(self):
        self.assertEqual(run(BEGUN, enter(1), enter(4), enter(2))[1:], [[0, 0], [0, 1], [0, 2]])

    def test_refusals_and_their_order(self):
        told = run(BEGUN, season(0, 5), season(0, 5), enter(0), enter(5), enter(4294967295), enter(0, 9), enter(1, 3),
                   enter(1, 4294967295), enter(1, 1), enter(1, 1), enter(0, 1), enter(2, 2), enter(2, 2), enter(1, 3))
        self.assertEqual(told[3:], [[-1], [-1], [-1], [-1], [-4], [-4], [0, 0], [-8], [-1], [0, 1], [-8], [-4]])

    def test_many_without_a_card(self):
        told = run(BEGUN, season(0, 5), *[enter(1, 0) for _ in range(58)])
        self.assertEqual(told[2:], [[0, k] for k in range(58)])

    def test_two_hundred_tickets_at_most(self):
        told = run(BEGUN, season(0, 5), season(0, 5), enter(1, 1), *[enter() for _ in range(199)], enter(), enter(0),
                   enter(1, 3), enter(1, 1), enter(1, 2), owes(199), owes(200))
        self.assertEqual(told[3:203], [[0, k] for k in range(200)])
        self.assertEqual(told[203:], [[-7], [-1], [-4], [-8], [-7], [0, 0, 0, 0], [-4]])

    def test_a_refused_one_draws_no_ticket(self):
        told = run(BEGUN, enter(0), owes(0), enter(1, 1), owes(0), enter(3), owes(0), owes(1))
        self.assertEqual(told[1:], [[-1], [-4], [-4], [-4], [0, 0], [0, 0, 0, 0], [-4]])

    def test_the_class_counts(self):
        begun = tariff(lines(HOUR, "buy small 7 60 1111111 0 1440 2"))
        told = run(begun, enter(1), enter(2), enter(3), enter(4), clock(60), owes(0), owes(1), owes(2), owes(3))
        self.assertEqual([answer[1] for answer in told[6:]], [7, 7, 100, 100])

    def test_first_and_last_day_of_a_card(self):
        begun = tariff(lines(HOUR, f"buy x 7 60 {ANY} card gold"))
        for minute, cents in ((2 * DAY - 1, 100), (2 * DAY, 7), (3 * DAY, 7), (4 * DAY - 1, 7), (4 * DAY, 100)):
            told = last(begun, season(2, 3), clock(minute), enter(1, 1), clock(minute + 60), owes(0))
            self.assertEqual(told, [0, cents, cents, 0], minute)
            told = last(begun, season(2, 3), clock(minute), enter(1, 0), clock(minute + 60), owes(0))
            self.assertEqual(told, [0, 100, 100, 0], minute)

    def test_the_kind_holds_for_the_whole_stay(self):
        begun = tariff(lines(HOUR, f"buy x 7 60 {ANY} card gold"))
        told = last(begun, season(0, 0), clock(DAY - 1), enter(1, 1), clock(3 * DAY - 1), owes(0))
        self.assertEqual(told[1], 48 * 7)
        told = last(begun, season(1, 1), clock(DAY - 1), enter(1, 1), clock(2 * DAY - 1), owes(0))
        self.assertEqual(told[1], 24 * 100)

    def test_each_card_its_kind(self):
        begun = tariff(lines(HOUR, f"buy x 7 60 {ANY} card gold", f"buy y 8 60 {ANY} card silver"))
        told = run(begun, season(0, 0, "silver"), season(0, 0, "gold"), season(0, 0, "tin"), enter(1, 1), enter(1, 2),
                   enter(1, 3), clock(60), owes(0), owes(1), owes(2))
        self.assertEqual([answer[1] for answer in told[8:]], [8, 7, 100])

    def test_a_card_is_in_use_on_other_days_too(self):
        told = run(BEGUN, season(5, 6), enter(1, 1), enter(1, 1), clock(5 * DAY), enter(1, 1))
        self.assertEqual(told[2:], [[0, 0], [-8], [0], [-8]])


class Voucher(unittest.TestCase):
    def test_least_and_greatest(self):
        for kind, most in ((0, 1440), (1, 100), (2, 99999)):
            told = run(BEGUN, enter(), voucher(0, kind, 0), voucher(0, kind, most + 1), voucher(0, kind, 4294967295),
                       voucher(0, kind, 1), voucher(0, kind, most))
            self.assertEqual(told[2:], [[-1], [-1], [-1], [0], [0]])

    def test_refusals_and_their_order(self):
        told = run(BEGUN, voucher(0, 0, 1), voucher(0, 3, 0), enter(), voucher(0, 3, 1), voucher(0, 4294967295, 1),
                   voucher(1, 3, 1), voucher(0, 0, 1), voucher(0, 1, 1), voucher(0, 2, 1), voucher(0, 0, 1),
                   voucher(0, 3, 1), voucher(0, 2, 0), voucher(4294967295, 0, 1))
        self.assertEqual(told[1:], [[-4], [-4], [0, 0], [-1], [-1], [-4], [0], [0], [0], [-7], [-1], [-1], [-4]])

    def test_a_refused_one_takes_nothing_off(self):
        told = run(ONE_CENT_A_MINUTE, enter(), voucher(0, 1, 101), voucher(0, 2, 100000), voucher(0, 0, 1441),
                   voucher(0, 3, 1), clock(1000), owes(0), voucher(0, 2, 1), voucher(0, 2, 1), voucher(0, 2, 1),
                   voucher(0, 2, 500), owes(0))
        self.assertEqual(told[7], [0, 1000, 1000, 0])
        self.assertEqual(told[-1], [0, 997, 997, 0])

    def test_later(self):
        self.assertEqual(due(1000, (0, 1)), 999)
        self.assertEqual(due(1000, (0, 400)), 600)
        self.assertEqual(due(1000, (0, 400), (0, 1), (0, 99)), 500)
        self.assertEqual(due(5000, (0, 1440), (0, 1440), (0, 1440)), 680)

    def test_later_than_now(self):
        self.assertEqual(due(1000, (0, 999)), 1)
        self.assertEqual(due(1000, (0, 1000)), 0)
        self.assertEqual(due(1000, (0, 1001)), 0)
        self.assertEqual(due(0, (0, 1440)), 0)
        self.assertEqual(due(1000, (0, 600), (0, 600)), 0)
        told = run(ONE_CENT_A_MINUTE, enter(), voucher(0, 0, 100), clock(50), owes(0), clock(100), owes(0), clock(101),
                   owes(0))
        self.assertEqual([told[k][1] for k in (4, 6, 8)], [0, 0, 1])

    def test_later_moves_the_stay_itself(self):
        begun = tariff(lines(HOUR, "flat eve 50 1200 1111111 600 660 4 first", free=5))
        self.assertEqual(due(120, begun=begun, begin=540), 200)
        self.assertEqual(due(120, (0, 59), begun=begun, begin=540), 200)
        self.assertEqual(due(120, (0, 60), begun=begun, begin=540), 50)
        self.assertEqual(due(120, (0, 115), begun=begun, begin=540), 0)
        self.assertEqual(due(120, (0, 114), begun=begun, begin=540), 50)

    def test_the_moved_stay_is_priced_as_it_stands(self):
        begun = tariff(lines(HOUR, "flat early 150 1200 1111111 0 540 4"))
        self.assertEqual(due(600, begun=begun, begin=500), 150)
        self.assertEqual(due(600, (0, 60), begun=begun, begin=500), 900)

    def test_hundredths_are_rounded_down(self):
        for cents, n, left in ((1, 1, 1), (1, 99, 1), (1, 100, 0), (99, 1, 99), (100, 1, 99), (199, 1, 198), (3, 50, 2),
                               (7, 33, 5), (10, 15, 9), (1000, 100, 0), (999, 99, 10), (0, 50, 0)):
            self.assertEqual(due(cents, (1, n)), left, (cents, n))

    def test_hundredths_of_what_is_left(self):
        self.assertEqual(due(1000, (1, 50), (1, 50), (1, 50)), 125)
        self.assertEqual(due(99, (1, 50), (1, 50)), 25)

    def test_cents_not_below_nought(self):
        for cents, n, left in ((10, 1, 9), (10, 9, 1), (10, 10, 0), (10, 11, 0), (10, 99999, 0), (0, 1, 0)):
            self.assertEqual(due(cents, (2, n)), left)
        self.assertEqual(due(10, (2, 7), (2, 7), (2, 7)), 0)

    def test_one_after_another_in_order(self):
        self.assertEqual(due(1000, (1, 50), (2, 100)), 400)
        self.assertEqual(due(1000, (2, 100), (1, 50)), 450)
        self.assertEqual(due(1000, (2, 100), (0, 500), (1, 50)), 200)
        self.assertEqual(due(1000, (0, 500), (1, 10), (2, 50)), 400)

    def test_each_ticket_has_its_own(self):
        told = run(ONE_CENT_A_MINUTE, enter(), enter(), voucher(1, 2, 30), clock(100), enter(), clock(110), owes(0),
                   owes(1), owes(2))
        self.assertEqual(told[7:], [[0, 110, 110, 0], [0, 80, 80, 0], [0, 10, 10, 0]])

    def test_one_more_never_makes_it_dearer(self):
        rng = random.Random(909)
        products = [f"buy a 90 45 {ANY}", f"buy b 150 120 {ANY}", f"buy c 999 1440 {ANY}"]
        begun = tariff(lines(*products, free=10, lost=50))
        for _ in range(40):
            minutes = rng.choice([rng.randrange(0, 3000), rng.randrange(10000, 14000)])
            kinds = [rng.randrange(0, 3) for _ in range(3)]
            chosen = [(k, rng.randrange(1, (1441, 101, 1000)[k])) for k in kinds]
            asked = [due(minutes, *chosen[:count], begun=begun, begin=777) for count in range(4)]
            self.assertEqual(asked, sorted(asked, reverse=True), (minutes, chosen))


class Owes(unittest.TestCase):
    def test_no_such_ticket(self):
        self.assertEqual(run(BEGUN, owes(0), enter(), owes(1), owes(4294967295))[1:], [[-4], [0, 0], [-4], [-4]])

    def test_the_price_from_its_minute_to_now(self):
        begun = tariff(lines(HOUR, "flat n 30 420 1111100 1080 1440 4", free=15, lost=25))
        for begin, minutes in ((0, 0), (0, 15), (0, 16), (1079, 400), (1080, 400), (5, 10080), (5, 10081), (5, 20000)):
            told = run(begun, price(begin, begin + minutes), clock(begin), enter(), clock(begin + minutes), owes(0))
            self.assertEqual(told[-1], [0, told[1][1], told[1][1], 0])

    def test_asking_changes_nothing(self):
        told = run(BEGUN, enter(), clock(61), owes(0), owes(0), clock(61), owes(0))
        self.assertEqual([told[k] for k in (3, 4, 6)], [[0, 200, 200, 0]] * 3)


if __name__ == "__main__":
    unittest.main()
