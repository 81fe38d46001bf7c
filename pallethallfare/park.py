"""The park: a list of calls, and what is answered."""

from pallethallfare.limits import COIN_KINDS, FAULTY, FULL, IN_USE, LATEST_DAY, LATEST_MINUTE, LOST_ALREADY
from pallethallfare.limits import MOST_BYTES, MOST_CARDS, MOST_CENTS, MOST_CLASS, MOST_COINS, MOST_COINS_PAID
from pallethallfare.limits import MOST_GIVEN_BACK, MOST_PROOF_MINUTES, MOST_TICKETS, MOST_VOUCHERS, NOT_THERE
from pallethallfare.limits import NO_CHANGE, NO_TARIFF, OVERFULL, OWES_NOTHING, OWING, TOO_LONG, TOO_MUCH_BACK
from pallethallfare.limits import WANTING, WEEK, WRONG
from pallethallfare.purse import change_of, worth_of
from pallethallfare.signs import is_name, text_of
from pallethallfare.stay import Stay, first_overweight, offers_of, price_of, rests_of, row_of, sums_of, weights_of
from pallethallfare.tariff import NO_FAULT, Tariff, first_fault, lines_of
from pallethallfare.ticket import Card, Ticket, base_of, best_order, due_for, in_order, is_voucher, kind_by_card
from pallethallfare.ticket import left_by, owed_of


class Park:
    def __init__(self):
        self.begin_anew(None, [])

    def begin_anew(self, tariff, coins):
        self.tariff = tariff
        self.coins = coins
        self.now = 0
        self.cards = []
        self.tickets = []
        # Each payment as its minute and its cents.
        self.payments = []

    def take_payment(self, ticket, cents, coins):
        self.coins = coins
        self.payments.append((self.now, cents))
        ticket.paid += cents
        ticket.paid_at = self.now


def are_coins(coins, most):
    return len(coins) == COIN_KINDS and max(coins) <= most


def is_class(number):
    return 1 <= number <= MOST_CLASS


def is_stay(stay):
    if stay.end < stay.begin or stay.end > LATEST_MINUTE:
        return False
    return is_class(stay.car_class) and (stay.card == "" or is_name(stay.card))


# Only the calls price, row and proof tell a stay in this form.
def told_stay(numbers, rows):
    return Stay(numbers[0], numbers[1], numbers[2], text_of(rows[0]))


def open_ticket(park, number):
    if number >= len(park.tickets) or park.tickets[number].is_gone:
        return None
    return park.tickets[number]


def is_card_in_use(park, card):
    return any([ticket.card == card and not ticket.is_gone for ticket in park.tickets])


def answer_tariff(park, numbers, rows):
    text = rows[0]
    coins = rows[1]
    if len(text) > MOST_BYTES:
        return [TOO_LONG]
    if not are_coins(coins, MOST_COINS):
        return [WRONG]
    lines = lines_of(text)
    fault = first_fault(lines)
    if fault[0] != NO_FAULT:
        return [FAULTY, fault[0], fault[1]]
    park.begin_anew(Tariff(text, lines), coins)
    return [0]


def answer_print(park, numbers, rows):
    return [len(park.tariff.text)] + park.tariff.text


def answer_clock(park, numbers, rows):
    if not park.now <= numbers[0] <= LATEST_MINUTE:
        return [WRONG]
    park.now = numbers[0]
    return [0]


def answer_price(park, numbers, rows):
    stay = told_stay(numbers, rows)
    if not is_stay(stay):
        return [WRONG]
    return [0, price_of(park.tariff, stay)]


def answer_row(park, numbers, rows):
    stay = told_stay(numbers, rows)
    if not is_stay(stay) or stay.end - stay.begin > WEEK:
        return [WRONG]
    offers = offers_of(park.tariff, stay)
    rests = rests_of(offers, stay)
    bought = row_of(offers, rests, stay)
    answer = [0, rests[0], len(bought)]
    for product in bought:
        answer.extend(list(product))
    return answer


def answer_proof(park, numbers, rows):
    stay = told_stay(numbers, rows)
    if not is_stay(stay) or stay.end - stay.begin > MOST_PROOF_MINUTES:
        return [WRONG]
    rests = rests_of(offers_of(park.tariff, stay), stay)
    weights = weights_of(rests, stay)
    answer = [0, rests[0], len(weights)]
    for weight in weights:
        answer.extend(list(weight))
    return answer


def answer_fair(park, numbers, rows):
    weights = rows[1]
    stay = Stay(numbers[0], numbers[0] + len(weights), numbers[1], text_of(rows[0]))
    if len(weights) > MOST_PROOF_MINUTES or not is_stay(stay):
        return [WRONG]
    if any([weight > MOST_CENTS for weight in weights]):
        return [WRONG]
    sums = sums_of(weights)
    for product in park.tariff.products:
        minute = first_overweight(product, stay, sums)
        if minute is not None:
            return [1, product.number, minute]
    return [0, sums[-1]]


def answer_season(park, numbers, rows):
    name = text_of(rows[0])
    if numbers[1] < numbers[0] or numbers[1] > LATEST_DAY or not is_name(name):
        return [WRONG]
    if len(park.cards) == MOST_CARDS:
        return [FULL]
    park.cards.append(Card(numbers[0], numbers[1], name))
    return [0, len(park.cards) - 1]


# The card is told as its number and 1, so that 0 is left for none.
def answer_enter(park, numbers, rows):
    card = numbers[1] - 1 if numbers[1] > 0 else None
    if not is_class(numbers[0]):
        return [WRONG]
    if numbers[1] > len(park.cards):
        return [NOT_THERE]
    if card is not None and is_card_in_use(park, card):
        return [IN_USE]
    if len(park.tickets) == MOST_TICKETS:
        return [FULL]
    parks_by = kind_by_card(park.cards[card], park.now) if card is not None else ""
    park.tickets.append(Ticket(numbers[0], card, parks_by, park.now))
    return [0, len(park.tickets) - 1]


def answer_voucher(park, ticket, numbers, rows):
    if not is_voucher(numbers[1], numbers[2]):
        return [WRONG]
    if len(ticket.vouchers) == MOST_VOUCHERS:
        return [FULL]
    ticket.vouchers.append((numbers[1], numbers[2]))
    return [0]


def answer_owes(park, ticket, numbers, rows):
    due = due_for(park.tariff, ticket, park.now)
    return [0, owed_of(park.tariff, ticket, park.now, due), due, ticket.paid]


def answer_best(park, ticket, numbers, rows):
    base = base_of(park.tariff, ticket, park.now)
    order = best_order(ticket.vouchers, base)
    return [0, left_by(in_order(ticket.vouchers, order), base)] + order


def answer_arrange(park, ticket, numbers, rows):
    order = best_order(ticket.vouchers, base_of(park.tariff, ticket, park.now))
    ticket.vouchers = in_order(ticket.vouchers, order)
    return [0]


def owed_now(park, ticket):
    return owed_of(park.tariff, ticket, park.now, due_for(park.tariff, ticket, park.now))


def answer_pay(park, ticket, numbers, rows):
    coins = rows[0]
    if not are_coins(coins, MOST_COINS_PAID):
        return [WRONG]
    owed = owed_now(park, ticket)
    if owed == 0:
        return [OWES_NOTHING]
    back = worth_of(coins) - owed
    if back < 0:
        return [WANTING, -back]
    if back > MOST_GIVEN_BACK:
        return [TOO_MUCH_BACK]
    together = [held + handed for held, handed in zip(park.coins, coins)]
    change = change_of(together, back)
    if change is None:
        return [NO_CHANGE]
    kept = [had - given for had, given in zip(together, change)]
    if not are_coins(kept, MOST_COINS):
        return [OVERFULL]
    park.take_payment(ticket, owed, kept)
    return [0] + change


def answer_lost(park, ticket, numbers, rows):
    if ticket.is_lost:
        return [LOST_ALREADY]
    ticket.is_lost = True
    ticket.paid_at = None
    return [0]


def answer_leave(park, ticket, numbers, rows):
    owed = owed_now(park, ticket)
    if owed > 0:
        return [OWING, owed]
    ticket.is_gone = True
    return [0]


def answer_ticket(park, ticket, numbers, rows):
    answer = [0, ticket.car_class, 1 if ticket.parks_by != "" else 0, ticket.minute, ticket.paid]
    answer.append(1 if ticket.is_lost else 0)
    answer.append(ticket.paid_at + 1 if ticket.paid_at is not None else 0)
    answer.append(len(ticket.vouchers))
    for voucher in ticket.vouchers:
        answer.extend(list(voucher))
    return answer


def answer_coins(park, numbers, rows):
    return [0] + park.coins


def answer_takings(park, numbers, rows):
    found = [cents for minute, cents in park.payments if numbers[0] <= minute <= numbers[1]]
    return [0, sum(found), len(found)]


def answer_stays(park, numbers, rows):
    found = [number for number, ticket in enumerate(park.tickets) if not ticket.is_gone]
    return [0, len(found)] + found


def answer_change(park, numbers, rows):
    if numbers[0] > MOST_GIVEN_BACK:
        return [WRONG]
    change = change_of(park.coins, numbers[0])
    if change is None:
        return [NO_CHANGE]
    return [0] + change


TARIFF = 1
# How many whole numbers and how many rows each call has.
FORMS = {
    1: (0, 2), 2: (0, 0), 3: (1, 0), 4: (3, 1), 5: (3, 1), 6: (3, 1), 7: (2, 2), 8: (2, 1), 9: (2, 0), 10: (3, 0),
    11: (1, 0), 12: (1, 0), 13: (1, 0), 14: (1, 1), 15: (1, 0), 16: (1, 0), 17: (1, 0), 18: (0, 0), 19: (2, 0),
    20: (0, 0), 21: (1, 0),
}
WORK = {
    1: answer_tariff, 2: answer_print, 3: answer_clock, 4: answer_price, 5: answer_row, 6: answer_proof,
    7: answer_fair, 8: answer_season, 9: answer_enter, 18: answer_coins, 19: answer_takings, 20: answer_stays,
    21: answer_change,
}
# The calls whose first number is a ticket's.
TICKET_WORK = {
    10: answer_voucher, 11: answer_owes, 12: answer_best, 13: answer_arrange, 14: answer_pay, 15: answer_lost,
    16: answer_leave, 17: answer_ticket,
}


def answer_call(park, call, numbers, rows):
    if park.tariff is None and call != TARIFF:
        return [NO_TARIFF]
    if call in WORK:
        return WORK[call](park, numbers, rows)
    ticket = open_ticket(park, numbers[0])
    if ticket is None:
        return [NOT_THERE]
    return TICKET_WORK[call](park, ticket, numbers, rows)


def rows_from(calls, begin, count):
    rows = []
    place = begin
    while len(rows) < count:
        length = calls[place]
        rows.append(calls[place + 1:place + 1 + length])
        place += 1 + length
    return rows


def answers(calls):
    park = Park()
    told = []
    place = 0
    while place < len(calls):
        call = calls[place]
        form = FORMS[call]
        numbers = calls[place + 1:place + 1 + form[0]]
        rows = rows_from(calls, place + 1 + form[0], form[1])
        place += 1 + len(numbers) + len(rows) + sum([len(row) for row in rows])
        answer = answer_call(park, call, numbers, rows)
        told.append(len(answer))
        told.extend(answer)
    return told
