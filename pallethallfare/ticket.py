"""Tickets, season cards and vouchers: what's due, what's owed and the best order."""

from pallethallfare.limits import DAY
from pallethallfare.stay import Stay, price_of

LATER = 0
HUNDREDTHS = 1
MOST_OF_VOUCHER = (1440, 100, 99999)


class Card:
    def __init__(self, first_day, last_day, name):
        self.first_day = first_day
        self.last_day = last_day
        self.name = name


class Ticket:
    # card is the number of the season card it was drawn with, or None; parks_by is the kind that whoever parks has,
    # "" for none; paid_at is None where no payment counts.
    def __init__(self, car_class, card, parks_by, minute):
        self.car_class = car_class
        self.card = card
        self.parks_by = parks_by
        self.minute = minute
        self.vouchers = []
        self.paid = 0
        self.paid_at = None
        self.is_lost = False
        self.is_gone = False


# The kind that a card gives to whoever begins to park at this minute.
def kind_by_card(card, minute):
    return card.name if card.first_day <= minute // DAY <= card.last_day else ""


def is_voucher(kind, n):
    return kind < len(MOST_OF_VOUCHER) and 1 <= n <= MOST_OF_VOUCHER[kind]


def price_from(tariff, ticket, minute, now):
    return price_of(tariff, Stay(minute, now, ticket.car_class, ticket.parks_by))


def base_of(tariff, ticket, now):
    later = sum([n for kind, n in ticket.vouchers if kind == LATER])
    return price_from(tariff, ticket, min(ticket.minute + later, now), now)


def taken_off(kind, n, cents):
    if kind == LATER:
        return 0
    if kind == HUNDREDTHS:
        return cents * n // 100
    return min(n, cents)


def left_by(vouchers, base):
    left = base
    for kind, n in vouchers:
        left -= taken_off(kind, n, left)
    return left


# All orders of so many vouchers, the first by the first number that differs ahead.
def orders_of(count):
    orders = [[]]
    while len(orders[0]) < count:
        longer = []
        for order in orders:
            longer.extend([order + [number] for number in range(count) if number not in order])
        orders = longer
    return orders


def in_order(vouchers, order):
    return [vouchers[number] for number in order]


def best_order(vouchers, base):
    best = list(range(len(vouchers)))
    for order in orders_of(len(vouchers)):
        if left_by(in_order(vouchers, order), base) < left_by(in_order(vouchers, best), base):
            best = order
    return best


def due_for(tariff, ticket, now):
    if ticket.is_lost:
        return max(tariff.lost_cents, price_from(tariff, ticket, ticket.minute, now))
    return left_by(ticket.vouchers, base_of(tariff, ticket, now))


def owed_of(tariff, ticket, now, due):
    if ticket.paid_at is not None and now <= ticket.paid_at + tariff.grace:
        return 0
    return max(0, due - ticket.paid)
