"""Promise 1: a text tells one tariff, and is told back; another has its first fault."""
import unittest

from tests.helper import ANY, COINS, clock, enter, last, lines, owes, price, row, run, season, signs, tariff, told_text

GOOD = f"buy hour 100 60 {ANY}"


def fault(text):
    answer = last(tariff(text))
    return tuple(answer[1:]) if answer[:1] == [-6] and len(answer) == 3 else answer


def product_fault(line):
    """The fault of a fifth line, with one right product behind it."""
    return fault(lines(line, GOOD))


class Told(unittest.TestCase):
    def assert_told_back(self, text):
        told = run(tariff(text), told_text())
        self.assertEqual(told[0], [0], text)
        self.assertEqual(told[1], [len(text)] + signs(text))

    def test_told_back_byte_by_byte(self):
        self.assert_told_back(lines(GOOD))
        self.assert_told_back(lines(
            "flat night 650 420 1111100 1080 1440 3", "buy start 0 15 0000000 0 1 1 first",
            "flat home 1 0 0000011 719 720 2 card resident1", "buy day 99999 10080 1010101 1439 1440 4 first card x",
            f"flat till 5 1439 {ANY}", free=120, grace=60, lost=99999))

    def test_a_flat_product_may_be_the_one_of_any_time(self):
        self.assert_told_back(lines(f"flat eve 700 1080 {ANY}"))

    def test_names(self):
        for name in ("a", "z", "a0", "abcdefghijkl", "z12345678901", "first", "card", "buy"):
            self.assert_told_back(f"tariff {name}\nfree 0\ngrace 0\nlost 0\nbuy {name} 1 1 {ANY}\n")
            self.assert_told_back(lines(GOOD, f"buy x 1 1 {ANY} card {name}"))
            self.assert_told_back(lines(GOOD, f"buy x 1 1 {ANY} first card {name}"))

    def test_twelve_products(self):
        self.assert_told_back(lines(*[f"buy p{k} {k} 60 {ANY}" for k in range(12)]))

    def test_bounds_that_are_met(self):
        for head in ({"free": 0}, {"free": 120}, {"grace": 60}, {"lost": 99999}):
            self.assert_told_back(lines(GOOD, **head))
        for line in (f"buy x 0 1 {ANY}", f"buy x 99999 10080 {ANY}", f"flat x 99999 0 {ANY}", f"flat x 0 1439 {ANY}",
                     "buy x 1 1 0000000 0 1 1", "buy x 1 1 1111111 1439 1440 4"):
            self.assert_told_back(lines(line, GOOD))

    def test_the_last_text_is_told(self):
        other = lines(f"buy other 1 1 {ANY}")
        self.assertEqual(last(tariff(lines(GOOD)), tariff(other), told_text()), [len(other)] + signs(other))


class NoSuchLine(unittest.TestCase):
    def test_head_lines(self):
        head = ["tariff t", "free 0", "grace 0", "lost 0"]
        wrong = {
            0: ["", "tariff", "tariff ", "tariff T", "tariff 1a", "tariff abcdefghijklm", "tariff a b", " tariff a",
                "tariff  a", "tariff a ", "tarif a", "Tariff a", "tariff a-b", "tariff a\r", "free 0", "tariff\ta"],
            1: ["", "free", "free ", "free x", "free 00", "free 01", "free 0120", "free 1000000000", "free 0000000000",
                "free +1", "free -1", "free 1 ", "free  1", "free 1 1", "grace 0", "Free 1", "free 1.", "free 1_0"],
            2: ["", "grace", "grace x", "grace 00", "grace 1234567890", "free 0", "grace 0 0", "lost 0"],
            3: ["", "lost", "lost x", "lost 00", "lost 1234567890", "grace 0", "lost 0 0", GOOD],
        }
        for place, texts in wrong.items():
            for text in texts:
                told = head[:place] + [text] + head[place + 1:] + [GOOD]
                self.assertEqual(fault("".join(line + "\n" for line in told)), (1, place), text)

    def test_product_lines(self):
        for line in ("", "buy", "buy x", "buy x 1 1 1111111 0 1440", f"sell x 1 1 {ANY}", f"Buy x 1 1 {ANY}",
                     f"buy X 1 1 {ANY}", f"buy 1x 1 1 {ANY}", f"buy abcdefghijklm 1 1 {ANY}", f"buy  1 1 {ANY}",
                     f"buy x-y 1 1 {ANY}", f" buy x 1 1 {ANY}", f"buy x 1 1 {ANY} ", f"buy  x 1 1 {ANY}",
                     f"buy x 1 1 {ANY} last", f"buy x 1 1 {ANY} first first", f"buy x 1 1 {ANY} card",
                     f"buy x 1 1 {ANY} card X", f"buy x 1 1 {ANY} card abcdefghijklm", f"buy x 1 1 {ANY} card a b",
                     f"buy x 1 1 {ANY} first card", f"buy x 1 1 {ANY} card a first", f"buy x 1 1 {ANY} first a",
                     f"buy x 1 1 {ANY} first card 1", f"buy x 1 1 {ANY} card card card", f"flat x 1 {ANY}",
                     f"buy x 1 1 {ANY} first first card a", f"buy x 1 1 {ANY} a", f"buy x\u00e9 1 1 {ANY}",
                     f"buy x 1 1 {ANY} cards a", f"buy x 1 1 {ANY} first cards a", f"buy x 1 1 {ANY} a first"):
            self.assertEqual(product_fault(line), (1, 4), line)

    def test_weekdays(self):
        for days in ("111111", "11111111", "1111112", "111111x", "111 111", "0", "1111 111", "11111112", "x1111111",
                     "111-1111"):
            self.assertEqual(product_fault(f"buy x 1 1 {days} 0 1440 4"), (1, 4), days)

    def test_the_form_of_each_number(self):
        for sort in ("buy", "flat"):
            right = [sort, "x", "1", "1", "1111111", "0", "1440", "4"]
            for place in (2, 3, 5, 6, 7):
                for word in ("", "x", "00", "01", "04", "-1", "+1", "1x", "1000000000", "0000000001", "1\u00b2"):
                    line = " ".join(right[:place] + [word] + right[place + 1:])
                    self.assertEqual(product_fault(line), (1, 4), line)

    def test_bytes_beyond_the_signs(self):
        for byte in list(range(0, 10)) + list(range(11, 32)) + list(range(123, 256)) + [47, 58, 64, 91, 96]:
            text = signs("tariff t") + [byte] + signs("x\nfree 0\ngrace 0\nlost 0\n" + GOOD + "\n")
            self.assertEqual(last([1] + row(text) + row(COINS)), [-6, 1, 0], byte)
            text = signs(lines(f"buy x 1 1 {ANY}", GOOD))
            place = text.index(ord("x"))
            self.assertEqual(last([1] + row(text[:place] + [byte] + text[place + 1:]) + row(COINS)), [-6, 1, 4], byte)

    def test_behind_the_last_line(self):
        right = lines(GOOD)
        for text, line in (("", 0), ("x", 0), ("tariff t", 0), ("tariff t\n", 1), ("tariff t\nfree 0\n", 2),
                           ("tariff t\nfree 0\ngrace 0\n", 3), (lines(), 4), (lines() + GOOD, 4), (right + "x", 5),
                           (right + " ", 5), (right + GOOD, 5), (right[:-1], 4), (right + "\x00", 5)):
            self.assertEqual(fault(text), (1, line), text)
        self.assertEqual(fault(right + "\n"), (1, 5))
        self.assertEqual(fault(right + "\n" + GOOD + "\n"), (1, 5))
        self.assertEqual(fault("\n" + right), (1, 0))


class OutOfBounds(unittest.TestCase):
    def test_head_lines(self):
        self.assertEqual(fault(lines(GOOD, free=121)), (2, 1))
        self.assertEqual(fault(lines(GOOD, free=999999999)), (2, 1))
        self.assertEqual(fault(lines(GOOD, grace=61)), (2, 2))
        self.assertEqual(fault(lines(GOOD, lost=100000)), (2, 3))
        self.assertEqual(fault(lines(GOOD, lost=123456789)), (2, 3))

    def test_product_lines(self):
        for line in (f"buy x 100000 1 {ANY}", f"flat x 100000 1 {ANY}", f"buy x 999999999 1 {ANY}",
                     f"buy x 1 0 {ANY}", f"buy x 1 10081 {ANY}", f"flat x 1 1440 {ANY}", f"flat x 1 999999999 {ANY}",
                     "buy x 1 1 1111111 0 1441 4", "buy x 1 1 1111111 0 0 4", "buy x 1 1 1111111 720 720 4",
                     "buy x 1 1 1111111 721 720 4", "buy x 1 1 1111111 1440 1440 4", "buy x 1 1 1111111 1440 1441 4",
                     "buy x 1 1 1111111 0 1440 0", "buy x 1 1 1111111 0 1440 5", "flat x 1 1 1111111 0 1440 999999999",
                     "flat x 1 1 0000000 5 4 1 first card a"):
            self.assertEqual(product_fault(line), (2, 4), line)


class OtherFaults(unittest.TestCase):
    def test_a_name_that_an_earlier_product_has(self):
        self.assertEqual(fault(lines(GOOD, f"buy hour 1 1 {ANY}")), (3, 5))
        self.assertEqual(fault(lines(GOOD, "flat b 1 1 1111111 0 1 1", "flat hour 1 1 1111111 0 1 1")), (3, 6))
        self.assertEqual(fault(lines("buy a 1 1 1111111 0 1 1", "flat a 1 1 1111111 0 1 1")), (3, 5))

    def test_only_products_share_names(self):
        text = f"tariff a\nfree 0\ngrace 0\nlost 0\nbuy a 1 1 {ANY}\nbuy b 1 1 {ANY} card a\nbuy c 1 1 {ANY} card a\n"
        self.assertEqual(last(tariff(text)), [0])

    def test_the_thirteenth_product(self):
        twelve = [f"buy p{k} 1 60 {ANY}" for k in range(12)]
        self.assertEqual(fault(lines(*twelve, GOOD)), (4, 16))
        self.assertEqual(fault(lines(*twelve, GOOD, "x")), (4, 16))
        self.assertEqual(fault(lines(*twelve, GOOD) + "x"), (4, 16))
        self.assertEqual(fault(lines(*twelve, f"buy p3 1 1 {ANY}")), (3, 16))
        self.assertEqual(fault(lines(*twelve, f"buy p3 1 0 {ANY}")), (2, 16))
        self.assertEqual(fault(lines(*twelve, "x")), (1, 16))
        self.assertEqual(fault(lines(*twelve, "")), (1, 16))
        self.assertEqual(fault(lines(*twelve) + GOOD), (1, 16))
        none = [f"buy p{k} 1 60 1111111 0 1440 3" for k in range(12)]
        self.assertEqual(fault(lines(*none, GOOD)), (4, 16))

    def test_no_product_of_any_time(self):
        for line in ("buy x 1 1 1111110 0 1440 4", "buy x 1 1 0111111 0 1440 4", "buy x 1 1 1111111 1 1440 4",
                     "buy x 1 1 1111111 0 1439 4", "buy x 1 1 1111111 0 1440 3", f"buy x 1 1 {ANY} first",
                     f"buy x 1 1 {ANY} card a", f"flat x 1 1 {ANY} first card a"):
            self.assertEqual(fault(lines(line)), (5, 5), line)
            self.assertEqual(fault(lines(line, "buy y 1 1 1111111 0 1440 3")), (5, 6), line)
            self.assertEqual(fault(lines(line) + "x"), (1, 5), line)
            self.assertEqual(last(tariff(lines(line, GOOD))), [0], line)

    def test_of_several_the_first_line_and_there_the_least_kind(self):
        self.assertEqual(fault(lines(GOOD, f"buy hour 1 0 {ANY}")), (2, 5))
        self.assertEqual(fault(lines(GOOD, f"buy hour 01 0 {ANY}")), (1, 5))
        self.assertEqual(fault(lines(GOOD, "buy hour 1 0 1111111 9 8 07")), (1, 5))
        self.assertEqual(fault(lines(GOOD, "buy x 100000 1 111111 0 1440 4")), (1, 5))
        self.assertEqual(fault(lines(f"buy x 1 0 {ANY}", "x", free=0)), (2, 4))
        self.assertEqual(fault(lines("x", free=121, lost=100000)), (2, 1))
        self.assertEqual(fault(lines(GOOD, f"flat hour 1 1 {ANY}", "x") + "x"), (3, 5))
        self.assertEqual(fault("tariff 1\nfree 121\n"), (1, 0))
        self.assertEqual(fault("tariff t\nfree 121\n"), (2, 1))
        self.assertEqual(fault("tariff t\nfree 120\nx"), (1, 2))


class Refused(unittest.TestCase):
    def test_the_longest_text(self):
        self.assertEqual(last(tariff("\n" * 4096)), [-6, 1, 0])
        self.assertEqual(last(tariff("\n" * 4097)), [-2])
        right = lines(GOOD)
        self.assertEqual(last(tariff(right + "x" * (4096 - len(right)))), [-6, 1, 5])
        self.assertEqual(last(tariff(right + "x" * (4097 - len(right)))), [-2])
        self.assertEqual(last(tariff("x" * 5000)), [-2])

    def test_coins(self):
        right = lines(GOOD)
        for coins in ([], [0] * 7, [0] * 9, [41] + [0] * 7, [0] * 7 + [41], [0, 0, 0, 4294967295, 0, 0, 0, 0],
                      [1] * 1500):
            self.assertEqual(last(tariff(right, coins)), [-1], coins)
        for coins in ([0] * 8, [40] * 8, [0, 1, 2, 3, 4, 5, 6, 40]):
            self.assertEqual(last(tariff(right, coins)), [0], coins)

    def test_which_stands_first(self):
        self.assertEqual(last(tariff("\n" * 4097, [])), [-2])
        self.assertEqual(last(tariff("\n" * 4096, [])), [-1])
        self.assertEqual(last(tariff("x", [41] * 8)), [-1])
        self.assertEqual(last(tariff("x", [40] * 8)), [-6, 1, 0])

    def test_a_refused_one_leaves_all_as_it_was(self):
        text = lines(GOOD, free=5)
        begun = [tariff(text), clock(3000), season(0, 9), enter(2, 1), clock(3100)]
        for wrong in (tariff("x" * 4097), tariff(text, []), tariff("x"), tariff(lines(f"buy y 1 1 {ANY} first")),
                      tariff(lines(f"buy other 1 1 {ANY}") + "x")):
            told = run(*begun, wrong, told_text(), owes(0), enter(1, 1), season(1, 2), clock(3099), price(0, 60))
            self.assertLess(told[5][0], 0)
            self.assertEqual(told[6:], [[len(text)] + signs(text), [0, 200, 200, 0], [-8], [0, 1], [-1], [0, 100]])

    def test_a_refused_first_one_gives_no_tariff(self):
        self.assertEqual(run(tariff("x"), told_text(), clock(0)), [[-6, 1, 0], [-3], [-3]])

    def test_a_new_one_begins_all_anew(self):
        text = lines(GOOD)
        told = run(tariff(text), clock(3000), season(0, 9), enter(2, 1), tariff(text), owes(0), enter(1, 1), clock(10),
                   season(0, 9), enter(1, 1), owes(0), clock(11), owes(0))
        self.assertEqual(told[4:], [[0], [-4], [-4], [0], [0, 0], [0, 0], [0, 0, 0, 0], [0], [0, 100, 100, 0]])


class Clock(unittest.TestCase):
    def test_never_back_and_not_behind_the_latest(self):
        told = run(tariff(lines(GOOD)), clock(0), clock(7), clock(7), clock(6), clock(0), clock(4999999),
                   clock(5000001), clock(4294967295), clock(5000000), clock(5000000), clock(4999999))
        self.assertEqual(told, [[0], [0], [0], [0], [-1], [-1], [0], [-1], [-1], [0], [0], [-1]])

    def test_a_refused_one_leaves_the_minute(self):
        told = run(tariff(lines(GOOD)), clock(100), enter(), clock(99), owes(0), clock(5000001), owes(0), clock(101),
                   owes(0))
        self.assertEqual(told[2:], [[0, 0], [-1], [0, 0, 0, 0], [-1], [0, 0, 0, 0], [0], [0, 100, 100, 0]])


if __name__ == "__main__":
    unittest.main()
