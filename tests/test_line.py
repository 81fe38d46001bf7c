"""The interface and, of promise 7: what's refused changes nothing; nothing is kept from one list to the next."""
import unittest

from pallethallfare.park import answers
from tests.helper import (ANY, bought, clock, enter, fair, last, lines, owes, price, proof, row, run, season, signs,
                          tariff, told_text, voucher)

TEXT = lines(f"buy hour 100 60 {ANY}", f"buy x 7 60 {ANY} card gold", free=5, lost=9)
OTHERS = [told_text(), clock(0), price(0, 60), bought(0, 60), proof(0, 60), fair(0, [1]), season(0, 1), enter(),
          voucher(0, 0, 1), owes(0)]


class WithoutTariff(unittest.TestCase):
    def test_each_other_call(self):
        for call in OTHERS:
            self.assertEqual(run(call), [[-3]], call)
        self.assertEqual(run(*OTHERS), [[-3]] * len(OTHERS))

    def test_before_all_other_refusals(self):
        for call in (clock(5000001), price(1, 0), bought(0, 1, 9), proof(0, 1, 1, "X"), fair(0, [100000]),
                     season(1, 0), enter(0), enter(1, 1), voucher(0, 9, 9)):
            self.assertEqual(run(call), [[-3]], call)

    def test_what_was_refused_so_has_done_nothing(self):
        told = run(clock(50), season(0, 1), enter(), tariff(TEXT), clock(0), enter(1, 1), owes(0), season(0, 1))
        self.assertEqual(told, [[-3], [-3], [-3], [0], [0], [-4], [-4], [0, 0]])


class Interface(unittest.TestCase):
    def test_number_by_number(self):
        line = tariff(TEXT) + clock(10) + enter(2, 0) + price(0, 61) + price(1, 0) + bought(0, 60) + owes(0)
        self.assertEqual(answers(line), [1, 0, 1, 0, 2, 0, 0, 2, 0, 200, 1, -1, 7, 0, 100, 1, 0, 0, 60, 100, 4, 0, 0, 0, 0])

    def test_proof_fair_and_print(self):
        line = tariff(TEXT) + proof(0, 1) + fair(0, [3, 4]) + fair(0, [101]) + told_text() + tariff("x")
        self.assertEqual(answers(line), [1, 0, 5, 0, 100, 1, 0, 100, 2, 0, 7, 3, 1, 0, 0, len(TEXT) + 1, len(TEXT)]
                         + signs(TEXT) + [3, -6, 1, 0])

    def test_a_list_of_whole_numbers(self):
        told = answers([number for call in [tariff(TEXT)] + OTHERS for number in call])
        self.assertIs(type(told), list)
        self.assertTrue(all(type(number) is int for number in told))

    def test_sixty_calls(self):
        self.assertEqual(run(tariff(TEXT), *[clock(k) for k in range(59)]), [[0]] * 60)

    def test_nothing_is_kept(self):
        first = tariff(TEXT) + clock(10) + season(0, 1) + enter(1, 1) + voucher(0, 1, 5)
        self.assertEqual(answers(first), answers(list(first)))
        self.assertEqual(run(*OTHERS), [[-3]] * len(OTHERS))
        self.assertEqual(run(tariff(TEXT), owes(0), enter(1, 1), clock(0))[1:], [[-4], [-4], [0]])

    def test_what_is_given_back_is_new(self):
        line = tariff(TEXT) + told_text()
        told = answers(line)
        told[5] = 7
        told.append(1)
        self.assertEqual(answers(line), [1, 0, len(TEXT) + 1, len(TEXT)] + signs(TEXT))


class RefusedChangesNothing(unittest.TestCase):
    BEGUN = [tariff(TEXT), clock(1500), season(1, 3), season(0, 0, "tin"), enter(2, 1), enter(4, 0), voucher(0, 1, 10),
             voucher(1, 2, 50), voucher(1, 0, 30), voucher(1, 1, 1), clock(1700)]
    SHOWN = [told_text(), owes(0), owes(1), owes(2), season(0, 1), enter(1, 1), enter(3, 2), clock(1699), clock(1701),
             voucher(1, 0, 1), owes(2), price(0, 61), bought(3, 100, 1, "gold"), proof(3, 100), fair(7, [1, 2, 3])]
    REFUSED = [tariff("x" * 4097), tariff(TEXT, [0] * 7), tariff(TEXT, [41] * 8), tariff("tariff u\n"), tariff(TEXT[:-1]),
               clock(1699), clock(5000001), price(1, 0), price(0, 1, 5), price(0, 1, 1, "X"), bought(0, 10081),
               bought(0, 1, 0), proof(0, 1441), proof(0, 1, 1, "1"), fair(0, [0] * 1441), fair(0, [100000]),
               fair(0, [1], 0), season(4, 3), season(0, 3473), season(0, 1, ""), enter(0, 0), enter(5, 2), enter(1, 3),
               enter(1, 1), voucher(2, 0, 1), voucher(0, 3, 1), voucher(0, 0, 1441), voucher(1, 0, 1), owes(2)]

    def test_each(self):
        expected = run(*self.BEGUN, *self.SHOWN)[len(self.BEGUN):]
        for wrong in self.REFUSED:
            told = run(*self.BEGUN, wrong, *self.SHOWN)
            refusal = told[len(self.BEGUN)]
            self.assertLess(refusal[0], 0, wrong)
            self.assertEqual(len(refusal), 3 if refusal[0] == -6 else 1)
            self.assertEqual(told[len(self.BEGUN) + 1:], expected, wrong)

    def test_kinds_of_forty_bytes_and_any_byte(self):
        for kind in ([97] * 40, [0], [255], list(range(40)), [97, 255], [10], [32]):
            told = run(tariff(TEXT), [4, 0, 1, 1] + row(kind), [5, 0, 1, 1] + row(kind), [6, 0, 1, 1] + row(kind),
                       [7, 0, 1] + row(kind) + row([1]), [8, 0, 1] + row(kind), owes(0))
            self.assertEqual(told[1:], [[-1]] * 5 + [[-4]])

    def test_what_is_asked_alone_changes_nothing(self):
        told = run(tariff(TEXT), clock(9), enter(), clock(99), owes(0), price(0, 500), bought(0, 500), proof(0, 500),
                   fair(0, [1] * 9), told_text(), owes(0), clock(98))
        self.assertEqual((told[10], told[11]), (told[4], [-1]))
        self.assertEqual(last(tariff(TEXT), price(5000, 5061)), [0, 200])


if __name__ == "__main__":
    unittest.main()
