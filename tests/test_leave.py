"""Promise 7: what's told of a ticket till it's gone; the calls lost, leave, ticket and stays."""
import unittest

from tests.helper import ANY, DAY, arrange, best, clock, eight, enter, held, last, leave, lines, lost, owes, pay, run, season
from tests.helper import shown, stays, takings, tariff, voucher

TEXT = lines(f"buy m 1 1 {ANY}", grace=10, lost=500)
BEGUN = tariff(TEXT)
NOTHING = [0] * 8
OF_TICKETS = [lambda k: voucher(k, 0, 1), owes, best, arrange, lambda k: pay(k, NOTHING), lost, leave, shown]


class Lost(unittest.TestCase):
    def due(self, minutes, *vouchers):
        told = run(BEGUN, clock(7), enter(), *[voucher(0, *v) for v in vouchers], clock(7 + minutes), lost(0), owes(0))
        self.assertEqual(told[-2], [0])
        return told[-1]

    def test_the_greater_of_both(self):
        for minutes, cents in ((0, 500), (1, 500), (499, 500), (500, 500), (501, 501), (3000, 3000)):
            self.assertEqual(self.due(minutes), [0, cents, cents, 0], minutes)

    def test_whatever_vouchers_there_are(self):
        for vouchers in ([(0, 400)], [(1, 100)], [(2, 99999)], [(2, 300), (0, 900), (1, 50)]):
            self.assertEqual(self.due(100, *vouchers), [0, 500, 500, 0])
            self.assertEqual(self.due(1000, *vouchers), [0, 1000, 1000, 0])

    def test_a_voucher_behind_it_takes_nothing_off_either(self):
        told = run(BEGUN, enter(), clock(100), lost(0), voucher(0, 1, 100), owes(0), shown(0))
        self.assertEqual(told[4:], [[0], [0, 500, 500, 0], [0, 1, 0, 0, 0, 1, 0, 1, 1, 100]])

    def test_it_grows_with_the_stay(self):
        told = run(BEGUN, enter(), lost(0), owes(0), clock(500), owes(0), clock(501), owes(0), clock(11000), owes(0))
        self.assertEqual([told[k][1] for k in (3, 5, 7, 9)], [500, 500, 501, 10580])

    def test_free_minutes_do_not_help(self):
        told = run(tariff(lines(f"buy m 1 1 {ANY}", free=120, lost=30)), enter(), clock(120), owes(0), lost(0), owes(0))
        self.assertEqual([told[3], told[5]], [[0, 0, 0, 0], [0, 30, 30, 0]])

    def test_by_class_and_card(self):
        begun = tariff(lines(f"buy m 9 1 {ANY}", f"buy c 1 1 {ANY} card gold", "buy s 2 1 1111111 0 1440 2", lost=5))
        told = run(begun, season(0, 0), enter(4, 1), enter(2), enter(3), clock(100), lost(0), lost(1), lost(2), owes(0),
                   owes(1), owes(2))
        self.assertEqual([answer[2] for answer in told[-3:]], [100, 200, 900])

    def test_a_payment_before_no_longer_lets_one_drive_out(self):
        told = run(BEGUN, enter(), clock(50), pay(0, eight({50: 1})), owes(0), shown(0), lost(0), owes(0), shown(0), leave(0),
                   stays())
        self.assertEqual(told[4:], [[0, 0, 50, 50], [0, 1, 0, 0, 50, 0, 51, 0], [0], [0, 450, 500, 50],
                                    [0, 1, 0, 0, 50, 1, 0, 0], [-9, 450], [0, 1, 0]])

    def test_what_has_been_paid_still_counts(self):
        told = run(BEGUN, enter(), clock(600), pay(0, eight({200: 3})), clock(605), owes(0), lost(0), owes(0), leave(0),
                   pay(0, eight({5: 1})), leave(0))
        self.assertEqual(told[5:], [[0, 0, 605, 600], [0], [0, 5, 605, 600], [-9, 5], [0] + NOTHING, [0]])
        told = run(BEGUN, enter(), clock(600), pay(0, eight({200: 3})), lost(0), owes(0), leave(0))
        self.assertEqual(told[5:], [[0, 0, 600, 600], [0]])

    def test_a_payment_behind_it(self):
        told = run(BEGUN, enter(), clock(50), pay(0, eight({50: 1})), lost(0), clock(55), pay(0, eight({200: 2, 50: 1})),
                   shown(0), owes(0), clock(65), owes(0), takings(), clock(560), owes(0))
        self.assertEqual(told[6:], [[0] + NOTHING, [0, 1, 0, 0, 500, 1, 56, 0], [0, 0, 500, 500], [0], [0, 0, 500, 500],
                                    [0, 500, 2], [0], [0, 60, 560, 500]])

    def test_behind_the_minutes_to_drive_out_in(self):
        told = run(BEGUN, enter(), clock(495), lost(0), pay(0, eight({200: 2, 100: 1})), clock(505), owes(0), leave(0))
        self.assertEqual(told[6:], [[0, 0, 505, 500], [0]])
        told = run(BEGUN, enter(), clock(495), lost(0), pay(0, eight({200: 2, 100: 1})), clock(506), owes(0), leave(0))
        self.assertEqual(told[6:], [[0, 6, 506, 500], [-9, 6]])

    def test_a_second_time(self):
        told = run(BEGUN, enter(), lost(0), shown(0), lost(0), shown(0), pay(0, eight({200: 2, 100: 1})), shown(0), lost(0),
                   shown(0), owes(0), leave(0), lost(0))
        self.assertEqual(told[2:], [[0], [0, 1, 0, 0, 0, 1, 0, 0], [-5], [0, 1, 0, 0, 0, 1, 0, 0], [0] + NOTHING,
                                    [0, 1, 0, 0, 500, 1, 1, 0], [-5], [0, 1, 0, 0, 500, 1, 1, 0], [0, 0, 500, 500], [0],
                                    [-4]])

    def test_no_such_ticket(self):
        self.assertEqual(run(BEGUN, lost(0), enter(), lost(1), lost(4294967295), shown(0), leave(0), lost(0))[1:],
                         [[-4], [0, 0], [-4], [-4], [0, 1, 0, 0, 0, 0, 0, 0], [0], [-4]])

    def test_no_other_ticket(self):
        told = run(BEGUN, enter(), enter(), enter(), lost(1), owes(0), owes(1), owes(2))
        self.assertEqual(told[5:], [[0, 0, 0, 0], [0, 500, 500, 0], [0, 0, 0, 0]])


class Leave(unittest.TestCase):
    def test_gone_for_each_call(self):
        told = run(BEGUN, enter(), enter(), enter(), leave(1), *[call(1) for call in OF_TICKETS], stays())
        self.assertEqual(told[4:], [[0]] + [[-4]] * 8 + [[0, 2, 0, 2]])
        self.assertEqual(run(BEGUN, enter(), leave(0), pay(0, [1]), voucher(0, 9, 9))[3:], [[-4]] * 2)

    def test_the_others_stay(self):
        told = run(BEGUN, enter(2), clock(5), enter(3), leave(1), shown(0), shown(1), enter(4), shown(2), stays())
        self.assertEqual(told[4:], [[0], [0, 2, 0, 0, 0, 0, 0, 0], [-4], [0, 2], [0, 4, 0, 5, 0, 0, 0, 0], [0, 2, 0, 2]])

    def test_its_card_is_free(self):
        told = run(BEGUN, season(0, 0), season(0, 0), enter(1, 1), enter(1, 2), enter(1, 1), leave(0), enter(2, 1), shown(2),
                   enter(1, 1), enter(1, 2), leave(2), enter(3, 1), stays())
        self.assertEqual(told[3:], [[0, 0], [0, 1], [-8], [0], [0, 2], [0, 2, 1, 0, 0, 0, 0, 0], [-8], [-8], [0], [0, 3],
                                    [0, 2, 1, 3]])

    def test_what_it_owes(self):
        told = run(BEGUN, enter(), clock(1), leave(0), clock(5000), leave(0), stays(), lost(0), leave(0), voucher(0, 1, 100),
                   leave(0))
        self.assertEqual(told[3:], [[-9, 1], [0], [-9, 5000], [0, 1, 0], [0], [-9, 5000], [0], [-9, 5000]])

    def test_a_refused_one_changes_nothing(self):
        state = [shown(0), owes(0), stays(), held(), takings(), enter(1, 1)]
        told = run(BEGUN, season(0, 0), enter(1, 1), voucher(0, 2, 9), clock(50), *state, leave(0), *state)
        self.assertEqual(told[11], [-9, 41])
        self.assertEqual(told[5:11], told[12:])

    def test_in_the_minutes_to_drive_out_in(self):
        for minute, answer in ((50, [0]), (60, [0]), (61, [-9, 11])):
            told = last(BEGUN, enter(), clock(50), pay(0, eight({50: 1})), clock(minute), leave(0))
            self.assertEqual(told, answer)

    def test_by_vouchers(self):
        self.assertEqual(last(BEGUN, enter(), voucher(0, 0, 40), voucher(0, 2, 10), clock(50), leave(0)), [0])
        self.assertEqual(last(BEGUN, enter(), voucher(0, 0, 40), voucher(0, 2, 10), clock(51), leave(0)), [-9, 1])

    def test_coins_and_payments_stay(self):
        told = run(BEGUN, enter(), clock(50), pay(0, eight({50: 1})), held(), takings(), leave(0), held(), takings())
        self.assertEqual(told[4:6], told[7:])
        self.assertEqual(told[8], [0, 50, 1])

    def test_gone_ones_count_among_two_hundred(self):
        told = run(BEGUN, *[enter() for _ in range(200)], leave(0), leave(199), enter(), stays())
        self.assertEqual(told[201:], [[0], [0], [-7], [0, 198, *range(1, 199)]])

    def test_no_such_ticket(self):
        self.assertEqual(run(BEGUN, leave(0), enter(), leave(1), leave(4294967295), leave(0), leave(0))[1:],
                         [[-4], [0, 0], [-4], [-4], [0], [-4]])


class Told(unittest.TestCase):
    def test_class_and_minute(self):
        told = run(BEGUN, enter(1), clock(9), enter(2), clock(5000000), enter(3), enter(4), *[shown(k) for k in range(4)])
        self.assertEqual(told[7:], [[0, 1, 0, 0, 0, 0, 0, 0], [0, 2, 0, 9, 0, 0, 0, 0], [0, 3, 0, 5000000, 0, 0, 0, 0],
                                    [0, 4, 0, 5000000, 0, 0, 0, 0]])

    def test_whether_a_card_gives_a_kind(self):
        for minute, kind in ((2 * DAY - 1, 0), (2 * DAY, 1), (4 * DAY - 1, 1), (4 * DAY, 0)):
            told = run(BEGUN, season(2, 3, "tin"), clock(minute), enter(1, 1), enter(), shown(0), shown(1))
            self.assertEqual(told[5:], [[0, 1, kind, minute, 0, 0, 0, 0], [0, 1, 0, minute, 0, 0, 0, 0]])

    def test_it_stays_as_it_was_when_drawn(self):
        told = run(BEGUN, season(0, 0), season(1, 1), enter(1, 1), enter(1, 2), clock(DAY), shown(0), shown(1))
        self.assertEqual([answer[2] for answer in told[6:]], [1, 0])

    def test_vouchers_in_their_order(self):
        told = run(BEGUN, enter(), voucher(0, 2, 7), shown(0), voucher(0, 0, 1440), shown(0), voucher(0, 2, 3), shown(0),
                   voucher(0, 1, 1), shown(0))
        self.assertEqual([told[k] for k in (3, 5, 7, 9)],
                         [[0, 1, 0, 0, 0, 0, 0, 1, 2, 7], [0, 1, 0, 0, 0, 0, 0, 2, 2, 7, 0, 1440]]
                         + [[0, 1, 0, 0, 0, 0, 0, 3, 2, 7, 0, 1440, 2, 3]] * 2)

    def test_before_and_after_each_call(self):
        told = run(BEGUN, season(0, 9), clock(3), enter(2, 1), shown(0), voucher(0, 2, 10), voucher(0, 1, 50), shown(0),
                   clock(103), pay(0, eight({20: 2, 5: 1})), shown(0), arrange(0), shown(0), lost(0), shown(0), clock(200),
                   pay(0, eight({200: 2, 50: 1, 5: 1})), shown(0))
        self.assertEqual([told[k] for k in (4, 7, 10, 12, 14, 17)], [
            [0, 2, 1, 3, 0, 0, 0, 0], [0, 2, 1, 3, 0, 0, 0, 2, 2, 10, 1, 50], [0, 2, 1, 3, 45, 0, 104, 2, 2, 10, 1, 50],
            [0, 2, 1, 3, 45, 0, 104, 2, 1, 50, 2, 10], [0, 2, 1, 3, 45, 1, 0, 2, 1, 50, 2, 10],
            [0, 2, 1, 3, 500, 1, 201, 2, 1, 50, 2, 10]])

    def test_the_last_payment_is_told_behind_its_minutes_too(self):
        told = run(BEGUN, enter(), clock(5), pay(0, eight({5: 1})), clock(500), shown(0), pay(0, eight({1: 1})), shown(0))
        self.assertEqual(told[5:], [[0, 1, 0, 0, 5, 0, 6, 0], [-6, 494], [0, 1, 0, 0, 5, 0, 6, 0]])

    def test_no_such_ticket(self):
        self.assertEqual(run(BEGUN, shown(0), enter(), shown(1), shown(4294967295), leave(0), shown(0))[1:],
                         [[-4], [0, 0], [-4], [-4], [0], [-4]])


class Stays(unittest.TestCase):
    def test_none(self):
        self.assertEqual(run(BEGUN, stays(), enter(), leave(0), stays())[1:], [[0, 0], [0, 0], [0], [0, 0]])

    def test_some_rising(self):
        told = run(BEGUN, *[enter() for _ in range(9)], stays(), leave(4), leave(0), stays(), enter(), leave(8), stays())
        self.assertEqual([told[10], told[13], told[16]],
                         [[0, 9, *range(9)], [0, 7, 1, 2, 3, 5, 6, 7, 8], [0, 7, 1, 2, 3, 5, 6, 7, 9]])

    def test_lost_and_paid_ones_are_open(self):
        self.assertEqual(last(BEGUN, enter(), enter(), clock(5), lost(0), pay(1, eight({5: 1})), stays()), [0, 2, 0, 1])


if __name__ == "__main__":
    unittest.main()
