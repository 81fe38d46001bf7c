"""Promise 7: what's paid, given back and kept comes out to the cent; the calls pay, coins and takings."""
import unittest

from tests.helper import ANY, LATEST, clock, eight, enter, held, last, leave, lines, lost, owes, pay, run, shown
from tests.helper import stays, takings, tariff, voucher

TEXT = lines(f"buy m 1 1 {ANY}", grace=10, lost=500)
NOTHING = [0] * 8
STATE = [held(), shown(0), shown(1), owes(0), takings(), stays()]


def begun(minutes, machine=None):
    """Ticket 0 costs a cent for each of its minutes."""
    return [tariff(TEXT, eight(machine or {})), enter(), clock(minutes)]


class Pay(unittest.TestCase):
    def test_exact(self):
        told = run(*begun(77), pay(0, eight({50: 1, 20: 1, 5: 1, 2: 1})), held(), owes(0), takings(), shown(0))
        self.assertEqual(told[3:], [[0] + NOTHING, [0] + eight({50: 1, 20: 1, 5: 1, 2: 1}), [0, 0, 77, 77], [0, 77, 1],
                                    [0, 1, 0, 0, 77, 0, 78, 0]])

    def test_the_eight_numbers_of_the_change(self):
        told = run(*begun(12, dict.fromkeys((1, 2, 5, 10, 20, 50, 100), 1)), pay(0, eight({200: 1})), held())
        self.assertEqual(told[3:], [[0, 1, 1, 1, 1, 1, 1, 1, 0], [0, 0, 0, 0, 0, 0, 0, 0, 1]])
        told = run(*begun(1, {1: 3, 2: 9}), pay(0, eight({10: 1})), held())
        self.assertEqual(told[3:], [[0, 1, 4, 0, 0, 0, 0, 0, 0], [0, 2, 5, 0, 1, 0, 0, 0, 0]])

    def test_each_kind_has_its_worth(self):
        for kind, cents in enumerate((1, 2, 5, 10, 20, 50, 100, 200)):
            handed = [0] * 8
            handed[kind] = 1
            told = run(*begun(cents), pay(0, handed), held(), takings())
            self.assertEqual(told[3:], [[0] + NOTHING, [0] + handed, [0, cents, 1]])

    def test_change_that_needs_what_was_just_handed_in(self):
        told = run(*begun(45, {5: 1}), pay(0, eight({50: 1, 10: 1})), held())
        self.assertEqual(told[3:], [[0] + eight({10: 1, 5: 1}), [0] + eight({50: 1})])
        told = run(*begun(50), pay(0, eight({50: 1, 200: 2})), held())
        self.assertEqual(told[3:], [[0] + eight({200: 2}), [0] + eight({50: 1})])
        told = run(*begun(3, {1: 1}), pay(0, eight({1: 1, 2: 1, 5: 1})), held())
        self.assertEqual(told[3:], [[0] + eight({5: 1}), [0] + eight({1: 2, 2: 1})])

    def test_change_is_of_the_fewest(self):
        told = run(*begun(40, {20: 3, 50: 1, 1: 10}), pay(0, eight({100: 1})), held())
        self.assertEqual(told[3:], [[0] + eight({20: 3}), [0] + eight({50: 1, 1: 10, 100: 1})])
        told = run(*begun(40, {20: 3, 50: 1, 5: 2}), pay(0, eight({100: 1})))
        self.assertEqual(told[3], [0] + eight({50: 1, 5: 2}))

    def test_twenty_of_each(self):
        told = run(*begun(7760, dict.fromkeys((1, 2, 5, 10, 20, 50, 100, 200), 20)), pay(0, [20] * 8), held(), takings())
        self.assertEqual(told[3:], [[0] + NOTHING, [0] + [40] * 8, [0, 7760, 1]])

    def test_a_thousand_back(self):
        told = run(*begun(1), pay(0, eight({200: 5, 1: 1})), held())
        self.assertEqual(told[3:], [[0] + eight({200: 5}), [0] + eight({1: 1})])

    def test_by_vouchers(self):
        told = run(*begun(200), voucher(0, 1, 50), voucher(0, 2, 30), pay(0, eight({50: 1, 20: 1})), owes(0), leave(0))
        self.assertEqual(told[5:], [[0] + NOTHING, [0, 0, 70, 70], [0]])

    def test_a_second_payment(self):
        told = run(*begun(50), pay(0, eight({50: 1})), clock(60), owes(0), pay(0, eight({10: 1})), clock(61), owes(0),
                   pay(0, eight({10: 1, 1: 1})), owes(0), shown(0), takings(), held(), clock(71), leave(0))
        self.assertEqual(told[5:], [[0, 0, 60, 50], [-5], [0], [0, 11, 61, 50], [0] + NOTHING, [0, 0, 61, 61],
                                    [0, 1, 0, 0, 61, 0, 62, 0], [0, 61, 2], [0] + eight({50: 1, 10: 1, 1: 1}), [0], [0]])

    def test_the_minutes_to_drive_out_count_from_the_last_payment(self):
        told = run(*begun(50), pay(0, eight({50: 1})), clock(61), pay(0, eight({10: 1, 1: 1})), clock(71), owes(0), clock(72),
                   owes(0), leave(0))
        self.assertEqual(told[7:], [[0, 0, 71, 61], [0], [0, 11, 72, 61], [-9, 11]])

    def test_no_minutes_to_drive_out_in(self):
        told = run(tariff(lines(f"buy m 1 1 {ANY}")), enter(), clock(5), pay(0, eight({5: 1})), owes(0), clock(6), owes(0))
        self.assertEqual(told[4:], [[0, 0, 5, 5], [0], [0, 1, 6, 5]])

    def test_what_was_paid_may_be_more_than_what_is_due(self):
        told = run(*begun(50), pay(0, eight({50: 1})), voucher(0, 1, 50), clock(61), owes(0), pay(0, eight({1: 1})),
                   clock(101), owes(0), clock(102), owes(0), clock(103), owes(0))
        self.assertEqual(told[6:], [[0, 0, 31, 50], [-5], [0], [0, 1, 51, 50], [0], [0, 1, 51, 50], [0], [0, 2, 52, 50]])

    def test_each_ticket_its_payments(self):
        told = run(*begun(10), enter(), clock(30), pay(1, eight({20: 1})), shown(0), shown(1), pay(0, eight({20: 1, 10: 1})),
                   shown(0), shown(1), takings(), held())
        self.assertEqual(told[5:], [[0] + NOTHING, [0, 1, 0, 0, 0, 0, 0, 0], [0, 1, 0, 10, 20, 0, 31, 0], [0] + NOTHING,
                                    [0, 1, 0, 0, 30, 0, 31, 0], [0, 1, 0, 10, 20, 0, 31, 0], [0, 50, 2],
                                    [0] + eight({20: 2, 10: 1})])

    def test_at_minute_nought(self):
        told = run(tariff(lines(f"buy m 1 1 {ANY}", grace=3, lost=9)), enter(), lost(0), pay(0, eight({5: 1, 2: 2})), shown(0),
                   takings(0, 0), clock(3), owes(0), leave(0))
        self.assertEqual(told[3:], [[0] + NOTHING, [0, 1, 0, 0, 9, 1, 1, 0], [0, 9, 1], [0], [0, 0, 9, 9], [0]])


class Refused(unittest.TestCase):
    def assert_refused(self, before, handed, answer, ticket=0):
        told = run(*before, enter(), *STATE, pay(ticket, handed), *STATE)
        place = len(before) + 1 + len(STATE)
        self.assertEqual(told[place], answer)
        self.assertEqual(told[place - len(STATE):place], told[place + 1:])

    def test_no_such_ticket(self):
        for ticket in (2, 3, 4294967295):
            self.assert_refused(begun(50), eight({50: 1}), [-4], ticket)
        self.assert_refused([*begun(0), leave(0)], eight({50: 1}), [-4])

    def test_no_coins(self):
        for handed in ([], [0] * 7, [0] * 9, [20] * 7 + [21], [21] + [0] * 7, [0, 0, 0, 0, 0, 1, 0, 4294967295], [1] * 1500):
            self.assert_refused(begun(50), handed, [-1])

    def test_owes_nothing(self):
        self.assert_refused(begun(0), eight({1: 1}), [-5])
        self.assert_refused(begun(0), NOTHING, [-5])
        self.assert_refused([*begun(50), pay(0, eight({50: 1}))], eight({1: 1}), [-5])
        self.assert_refused([*begun(50), voucher(0, 1, 100)], eight({50: 1}), [-5])

    def test_cents_that_are_wanting(self):
        self.assert_refused(begun(50), NOTHING, [-6, 50])
        self.assert_refused(begun(50), eight({20: 2, 5: 1, 2: 2}), [-6, 1])
        self.assert_refused([*begun(50), pay(0, eight({50: 1})), clock(100)], eight({20: 1}), [-6, 30])
        self.assert_refused([*begun(50), lost(0)], eight({200: 2}), [-6, 100])

    def test_too_much_to_give_back(self):
        self.assert_refused(begun(1, {1: 40, 200: 40}), eight({200: 5, 1: 2}), [-7])
        self.assert_refused(begun(50), [20] * 8, [-7])

    def test_no_change(self):
        self.assert_refused(begun(1), eight({2: 1}), [-8])
        self.assert_refused(begun(40), eight({20: 1, 50: 1}), [-8])
        self.assert_refused(begun(40, {1: 9}), eight({20: 1, 50: 1, 100: 1}), [-8])
        self.assert_refused(begun(1, {200: 40}), eight({200: 1}), [-8])

    def test_forty_of_a_kind(self):
        told = run(*begun(3, {1: 38}), pay(0, eight({1: 2, 2: 1})), held())
        self.assertEqual(told[3:], [[0, 1] + [0] * 7, [0, 39, 1] + [0] * 6])
        told = run(*begun(2, {1: 38}), pay(0, eight({1: 2})), held())
        self.assertEqual(told[3:], [[0] + NOTHING, [0, 40] + [0] * 7])

    def test_more_than_forty_of_a_kind(self):
        self.assert_refused(begun(2, {1: 39}), eight({1: 2}), [-10])
        self.assert_refused(begun(200, {200: 40}), eight({200: 1}), [-10])
        self.assert_refused(begun(20, {20: 40, 1: 9}), eight({20: 1, 1: 5}), [-10])

    def test_other_change_is_not_looked_for(self):
        # Two tens back would leave 40 of them, but one coin of 20 is fewer.
        self.assert_refused(begun(10, {10: 39, 20: 1}), eight({10: 3}), [-10])
        told = run(*begun(10, {10: 39}), pay(0, eight({10: 3})), held())
        self.assertEqual(told[3:], [[0] + eight({10: 2}), [0] + eight({10: 40})])

    def test_the_first_of_several(self):
        self.assert_refused(begun(50), [0] * 7, [-4], 2)
        self.assert_refused(begun(50), NOTHING, [-4], 2)
        self.assert_refused(begun(0), [0] * 9, [-1])
        self.assert_refused(begun(50), [21] + [0] * 7, [-1])
        self.assert_refused(begun(50), [0] * 7 + [21], [-1])
        self.assert_refused(begun(50, {200: 40}), [0] * 6 + [1, 21], [-1])
        self.assert_refused(begun(0), [20] * 8, [-5])
        self.assert_refused(begun(0, {200: 40}), eight({200: 1}), [-5])
        self.assert_refused(begun(50, {1: 40}), eight({1: 1}), [-6, 49])
        self.assert_refused(begun(1), eight({200: 6}), [-7])
        self.assert_refused(begun(1, {200: 40}), eight({200: 6}), [-7])
        self.assert_refused(begun(1, {200: 40}), eight({200: 5}), [-8])

    def test_a_refused_one_is_no_payment(self):
        told = run(*begun(50), pay(0, eight({20: 1})), clock(55), owes(0), pay(0, eight({50: 1, 5: 1})), takings(0, 54),
                   takings(55, 55))
        self.assertEqual(told[3:], [[-6, 30], [0], [0, 55, 55, 0], [0] + NOTHING, [0, 0, 0], [0, 55, 1]])


class Coins(unittest.TestCase):
    def test_those_that_were_given(self):
        for coins in ([0] * 8, [40] * 8, [1, 2, 3, 4, 5, 6, 7, 8]):
            self.assertEqual(run(tariff(TEXT, coins), held(), held())[1:], [[0] + coins] * 2)

    def test_what_it_began_with_and_what_was_paid(self):
        told = run(*begun(12, {5: 1, 2: 3}), pay(0, eight({20: 1})), held(), clock(30), pay(0, eight({20: 2})), held())
        self.assertEqual(told[3:], [[-8], [0] + eight({5: 1, 2: 3}), [0], [-8], [0] + eight({5: 1, 2: 3})])
        told = run(*begun(13, {5: 1, 2: 3}), pay(0, eight({20: 1})), held(), clock(30), pay(0, eight({20: 1})), held())
        self.assertEqual(told[3:], [[0, 0, 1, 1] + [0] * 5, [0] + eight({20: 1, 2: 2}), [0], [-8],
                                    [0] + eight({20: 1, 2: 2})])


class Takings(unittest.TestCase):
    PAID = [tariff(TEXT), enter(), enter(), clock(10), pay(0, eight({10: 1})), leave(0), clock(20), pay(1, eight({20: 1})),
            enter(), clock(40), pay(1, eight({20: 1})), pay(2, eight({20: 1})), leave(1)]

    def test_both_ends_count(self):
        for a, b, cents, count in ((0, LATEST, 70, 4), (10, 40, 70, 4), (11, 40, 60, 3), (10, 39, 30, 2), (20, 20, 20, 1),
                                   (40, 40, 40, 2), (10, 10, 10, 1), (0, 10, 10, 1), (40, 4294967295, 40, 2)):
            self.assertEqual(last(*self.PAID, takings(a, b)), [0, cents, count], (a, b))

    def test_none_between(self):
        for a, b in ((0, 9), (11, 19), (21, 39), (41, LATEST), (4294967295, 4294967295), (0, 0)):
            self.assertEqual(last(*self.PAID, takings(a, b)), [0, 0, 0], (a, b))

    def test_b_below_a(self):
        for a, b in ((40, 10), (11, 10), (20, 0), (4294967295, 0), (1, 0)):
            self.assertEqual(last(*self.PAID, takings(a, b)), [0, 0, 0], (a, b))

    def test_no_payment_at_all(self):
        self.assertEqual(run(tariff(TEXT), takings(), takings(0, 0), takings(1, 0))[1:], [[0, 0, 0]] * 3)

    def test_change_is_not_taken(self):
        told = run(*begun(50), pay(0, eight({50: 1, 200: 3})), takings())
        self.assertEqual(told[-1], [0, 50, 1])

    def test_asking_changes_nothing(self):
        told = run(*self.PAID, takings(), held(), takings(), held(), takings(5, 1), takings())
        self.assertEqual(told[-6:-4], told[-4:-2])
        self.assertEqual(told[-1], [0, 70, 4])


if __name__ == "__main__":
    unittest.main()
