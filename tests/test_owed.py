"""What a ticket owes that is lost, or behind a payment: no call leads there yet, so the functions are asked."""
import unittest

from pallethallfare.tariff import Tariff, lines_of
from pallethallfare.ticket import Ticket, due_for, owed_of
from tests.helper import ANY, lines, signs

MINUTE = f"buy m 1 1 {ANY}"


class Owed(unittest.TestCase):
    def ticket(self):
        text = lines(MINUTE, grace=10, lost=500)
        ticket = Ticket(1, None, "", 0)
        ticket.vouchers = [(2, 30), (0, 20)]
        return Tariff(signs(text), lines_of(signs(text))), ticket

    def asked(self, now, paid, paid_at, is_lost):
        told, ticket = self.ticket()
        ticket.paid = paid
        ticket.paid_at = paid_at
        ticket.is_lost = is_lost
        all_due = due_for(told, ticket, now)
        return (owed_of(told, ticket, now, all_due), all_due)

    def test_of_a_ticket_that_is_lost(self):
        self.assertEqual(self.asked(100, 0, None, False), (50, 50))
        self.assertEqual(self.asked(499, 0, None, True), (500, 500))
        self.assertEqual(self.asked(501, 0, None, True), (501, 501))

    def test_behind_a_payment(self):
        self.assertEqual(self.asked(110, 50, 100, False), (0, 60))
        self.assertEqual(self.asked(111, 50, 100, False), (11, 61))
        self.assertEqual(self.asked(110, 50, None, True), (450, 500))
        self.assertEqual(self.asked(60, 50, None, False), (0, 10))


if __name__ == "__main__":
    unittest.main()
