"""The interface and, of promise 7: what's refused changes nothing; nothing is kept from one list to the next."""
import unittest

from pallethallfare.park import answers
from tests.helper import (ANY, arrange, best, bought, change, clock, eight, enter, fair, held, last, leave, lines, lost, owes,
                          pay, price, proof, row, run, season, shown, signs, stays, takings, tariff, told_text, voucher)

TEXT = lines(f"buy hour 100 60 {ANY}", f"buy x 7 60 {ANY} card gold", free=5, lost=9)
OTHERS = [told_text(), clock(0), price(0, 60), bought(0, 60), proof(0, 60), fair(0, [1]), season(0, 1), enter(),
          voucher(0, 0, 1), owes(0), best(0), arrange(0), pay(0, [0] * 8), lost(0), leave(0), shown(0), held(), takings(),
          stays(), change(0)]


class WithoutTariff(unittest.TestCase):
    def test_each_other_call(self):
        for call in OTHERS:
            self.assertEqual(run(call), [[-3]], call)
        self.assertEqual(run(*OTHERS), [[-3]] * len(OTHERS))

    def test_before_all_other_refusals(self):
        for call in (clock(5000001), price(1, 0), bought(0, 1, 9), proof(0, 1, 1, "X"), fair(0, [100000]),
                     season(1, 0), enter(0), enter(1, 1), voucher(0, 9, 9), pay(0, []), takings(1, 0), change(1001)):
            self.assertEqual(run(call), [[-3]], call)

    def test_what_was_refused_so_has_done_nothing(self):
        told = run(clock(50), season(0, 1), enter(), tariff(TEXT), clock(0), enter(1, 1), owes(0), season(0, 1))
        self.assertEqual(told, [[-3], [-3], [-3], [0], [0], [-4], [-4], [0, 0]])


class Interface(unittest.TestCase):
    def test_number_by_number(self):
        line = tariff(TEXT) + clock(10) + enter(2, 0) + price(0, 61) + price(1, 0) + bought(0, 60) + owes(0)
        self.assertEqual(answers(line), [1, 0, 1, 0, 2, 0, 0, 2, 0, 200, 1, -1, 7, 0, 100, 1, 0, 0, 60, 100, 4, 0, 0, 0, 0])

    def test_proof_fair_and_print(self):
        line = tariff(TEXT) + proof(0, 1) + fair(0, [3, 4]) + fair(0, [101]) + told_text() + tariff("x")
        self.assertEqual(answers(line), [1, 0, 5, 0, 100, 1, 0, 100, 2, 0, 7, 3, 1, 0, 0, len(TEXT) + 1, len(TEXT)]
                         + signs(TEXT) + [3, -6, 1, 0])

    def test_a_list_of_whole_numbers(self):
        told = answers([number for call in [tariff(TEXT)] + OTHERS for number in call])
        self.assertIs(type(told), list)
        self.assertTrue(all(type(number) is int for number in told))

    def test_sixty_calls(self):
        self.assertEqual(run(tariff(TEXT), *[clock(k) for k in range(59)]), [[0]] * 60)

    def test_nothing_is_kept(self):
        first = tariff(TEXT) + clock(10) + season(0, 1) + enter(1, 1) + voucher(0, 1, 5)
        self.assertEqual(answers(first), answers(list(first)))
        self.assertEqual(run(*OTHERS), [[-3]] * len(OTHERS))
        self.assertEqual(run(tariff(TEXT), owes(0), enter(1, 1), clock(0))[1:], [[-4], [-4], [0]])

    def test_the_calls_of_tickets_and_coins(self):
        line = (tariff(TEXT, [9] * 8) + enter() + voucher(0, 2, 30) + voucher(0, 1, 50) + clock(61) + best(0) + arrange(0)
                + pay(0, eight({100: 1})) + shown(0) + pay(0, eight({1: 1})) + held() + takings() + stays() + lost(0)
                + leave(0) + leave(0) + stays() + change(3) + change(1001))
        self.assertEqual(answers(line), [
            1, 0, 2, 0, 0, 1, 0, 1, 0, 1, 0, 4, 0, 70, 1, 0, 1, 0, 9, 0, 0, 0, 0, 1, 1, 0, 0, 0,
            12, 0, 1, 0, 0, 70, 0, 62, 2, 1, 50, 2, 30, 1, -5, 9, 0, 9, 9, 9, 8, 8, 9, 10, 9, 3, 0, 70, 1, 3, 0, 1, 0,
            1, 0, 2, -9, 130, 2, -9, 130, 3, 0, 1, 0, 9, 0, 1, 1, 0, 0, 0, 0, 0, 0, 1, -1])

    def test_what_is_given_back_is_new(self):
        line = tariff(TEXT) + told_text()
        told = answers(line)
        told[5] = 7
        told.append(1)
        self.assertEqual(answers(line), [1, 0, len(TEXT) + 1, len(TEXT)] + signs(TEXT))


class RefusedChangesNothing(unittest.TestCase):
    # Ticket 0 has a card, ticket 1 three vouchers, ticket 2 is gone, ticket 3 lost; the first three have paid. Ticket 4
    # owes nothing yet.
    BEGUN = [tariff(TEXT, [0, 39, 0, 0, 0, 0, 40, 1]), clock(1500), season(1, 3), season(0, 0, "tin"), enter(2, 1),
             enter(4, 0), enter(), enter(), voucher(0, 1, 10), voucher(1, 2, 50), voucher(1, 0, 30), voucher(1, 1, 1),
             clock(1550), pay(0, eight({5: 1, 2: 1})), pay(1, eight({50: 1})), pay(2, eight({50: 2})), leave(2), lost(3),
             clock(1700), enter()]
    SHOWN = [told_text(), held(), takings(), stays(), change(7), shown(0), shown(1), shown(2), shown(3), owes(0), owes(1),
             owes(2), owes(3), best(1), season(0, 1), enter(1, 1), enter(3, 2), clock(1699), clock(1701), voucher(1, 0, 1),
             owes(5), price(0, 61), bought(3, 100, 1, "gold"), proof(3, 100), fair(7, [1, 2, 3]), arrange(1), shown(1)]
    REFUSED = [tariff("x" * 4097), tariff(TEXT, [0] * 7), tariff(TEXT, [41] * 8), tariff("tariff u\n"), tariff(TEXT[:-1]),
               clock(1699), clock(5000001), price(1, 0), price(0, 1, 5), price(0, 1, 1, "X"), bought(0, 10081),
               bought(0, 1, 0), proof(0, 1441), proof(0, 1, 1, "1"), fair(0, [0] * 1441), fair(0, [100000]),
               fair(0, [1], 0), season(4, 3), season(0, 3473), season(0, 1, ""), enter(0, 0), enter(5, 2), enter(1, 3),
               enter(1, 1), voucher(2, 0, 1), voucher(0, 3, 1), voucher(0, 0, 1441), voucher(1, 0, 1), owes(2), owes(5),
               best(2), best(5), arrange(2), arrange(5), pay(2, [0] * 8), pay(5, [0] * 8), pay(0, [1] * 7), pay(0, [21] * 8),
               pay(4, eight({1: 1})), pay(3, eight({200: 1})), pay(3, eight({200: 9})), pay(0, eight({20: 1})),
               pay(3, eight({100: 3, 50: 2})), lost(2), lost(3), lost(5), leave(0), leave(1), leave(2), leave(3), leave(5),
               shown(2), shown(5), change(1001), change(1)]
    TOLD_BEHIND = {-6: (2, 3), -9: (2,)}

    def test_each(self):
        begun = run(*self.BEGUN, *self.SHOWN)
        self.assertTrue(all(answer[0] == 0 for answer in begun[:len(self.BEGUN)]))
        expected = begun[len(self.BEGUN):]
        for wrong in self.REFUSED:
            told = run(*self.BEGUN, wrong, *self.SHOWN)
            refusal = told[len(self.BEGUN)]
            self.assertLess(refusal[0], 0, wrong)
            self.assertIn(len(refusal), self.TOLD_BEHIND.get(refusal[0], (1,)))
            self.assertEqual(told[len(self.BEGUN) + 1:], expected, wrong)

    def test_what_pay_refuses_there(self):
        for ticket, coins, answer in ((5, [0] * 8, [-4]), (0, [1] * 7, [-1]), (0, [21] * 8, [-1]), (4, eight({1: 1}), [-5]),
                                      (3, eight({200: 1}), [-6, 200]), (3, eight({200: 9}), [-7]), (0, eight({20: 1}), [-8]),
                                      (3, eight({100: 3, 50: 2}), [-10])):
            self.assertEqual(last(*self.BEGUN, pay(ticket, coins)), answer)

    def test_kinds_of_forty_bytes_and_any_byte(self):
        for kind in ([97] * 40, [0], [255], list(range(40)), [97, 255], [10], [32]):
            told = run(tariff(TEXT), [4, 0, 1, 1] + row(kind), [5, 0, 1, 1] + row(kind), [6, 0, 1, 1] + row(kind),
                       [7, 0, 1] + row(kind) + row([1]), [8, 0, 1] + row(kind), owes(0))
            self.assertEqual(told[1:], [[-1]] * 5 + [[-4]])

    def test_what_is_asked_alone_changes_nothing(self):
        told = run(tariff(TEXT), clock(9), enter(), clock(99), owes(0), price(0, 500), bought(0, 500), proof(0, 500),
                   fair(0, [1] * 9), told_text(), owes(0), clock(98))
        self.assertEqual((told[10], told[11]), (told[4], [-1]))
        self.assertEqual(last(tariff(TEXT), price(5000, 5061)), [0, 200])


class Anew(unittest.TestCase):
    BEGUN = [tariff(TEXT, [4] * 8), season(0, 9), enter(1, 1), enter(2), voucher(1, 2, 7), clock(61), pay(0, eight({10: 2})),
             pay(1, eight({200: 1})), lost(0), enter(3)]
    STATE = [told_text(), clock(60), held(), takings(), stays(), shown(0), shown(1), shown(2), shown(3), owes(0), owes(1),
             change(9), season(0, 0), enter(1, 1), enter(1, 2)]
    OTHER = lines(f"buy m 1 1 {ANY}", lost=77)

    def test_all_begins_anew(self):
        coins = [1, 0, 2, 0, 3, 0, 4, 0]
        told = run(*self.BEGUN, tariff(self.OTHER, coins), *self.STATE)
        self.assertEqual(told[len(self.BEGUN):], run(tariff(self.OTHER, coins), *self.STATE))
        told = run(*self.BEGUN, tariff(self.OTHER, coins), clock(0), held(), takings(), stays(), owes(0), enter(1, 1),
                   season(0, 0), enter(4, 1), shown(0), takings(0, 4294967295), clock(5), owes(0))
        self.assertEqual(told[len(self.BEGUN):], [
            [0], [0], [0] + coins, [0, 0, 0], [0, 0], [-4], [-4], [0, 0], [0, 0], [0, 4, 1, 0, 0, 0, 0, 0], [0, 0, 0], [0],
            [0, 5, 5, 0]])

    def test_the_same_one_too(self):
        told = run(*self.BEGUN, tariff(TEXT, [4] * 8), *self.STATE)
        self.assertEqual(told[len(self.BEGUN):], run(tariff(TEXT, [4] * 8), *self.STATE))

    def test_a_refused_one_leaves_all_as_it_was(self):
        expected = run(*self.BEGUN, *self.STATE)
        for call, answer in ((tariff("x" * 4097, [0] * 8), [-2]), (tariff(self.OTHER, [41] + [0] * 7), [-1]),
                             (tariff(self.OTHER, [0] * 9), [-1]), (tariff(self.OTHER + "x"), [-6, 1, 5]),
                             (tariff(self.OTHER * 2), [-6, 1, 5]), (tariff(self.OTHER + f"buy m 1 1 {ANY}\n"), [-6, 3, 5]),
                             (tariff(self.OTHER.replace(ANY, "1111111 0 1439 4")), [-6, 5, 5])):
            told = run(*self.BEGUN, call, *self.STATE)
            self.assertEqual(told.pop(len(self.BEGUN)), answer)
            self.assertEqual(told, expected)

    def test_coins_handed_in_once_are_the_machines_own(self):
        line = tariff(TEXT, [4] * 8) + enter() + clock(60) + pay(0, eight({100: 1})) + held() + tariff(TEXT, [4] * 8) + held()
        self.assertEqual(answers(line)[-10:], [9, 0] + [4] * 8)


if __name__ == "__main__":
    unittest.main()
