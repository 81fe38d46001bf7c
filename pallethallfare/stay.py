"""Stays: what they cost, the row that's bought, and the weights that prove it."""

from pallethallfare.limits import DAY, WEEK

# More than any products of a stay of a week come to.
TOO_MUCH = 10000000000


# Who parks goes with the stay: card is "" for whoever has none.
class Stay:
    def __init__(self, begin, end, car_class, card):
        self.begin = begin
        self.end = end
        self.car_class = car_class
        self.card = card


# A product that may be begun in a stay, with all that's needed to buy it there.
class Offer:
    def __init__(self, product, stay):
        self.product = product
        self.spans = spans_of(product, stay)
        self.ends = latest_ends(product, stay, self.spans)


def is_for(product, stay):
    return stay.car_class <= product.most_class and (product.card == "" or product.card == stay.card)


# The minutes at which a product may be begun, as spans (from, before) within one day each, rising.
def spans_of(product, stay):
    spans = []
    if not is_for(product, stay):
        return spans
    before = min(stay.begin + 1, stay.end) if product.first_only else stay.end
    for day in range(stay.begin // DAY, (before - 1) // DAY + 1):
        begin = max(stay.begin, day * DAY + product.begins_from)
        end = min(before, day * DAY + product.begins_before)
        if product.weekdays[day % 7] == "1" and begin < end:
            spans.append((begin, end))
    return spans


def end_of(product, minute):
    if product.till is None:
        return minute + product.minutes
    return minute + 1 + (product.till - minute - 1) % DAY


def ends_in_span(product, begin, end):
    if product.till is None:
        return list(range(begin + product.minutes, end + product.minutes))
    turn = begin - begin % DAY + product.till
    early = max(0, min(end, turn) - begin)
    return [turn] * early + [turn + DAY] * (end - begin - early)


# For each minute of the stay the end, counted from the stay's first minute, of the product begun at the latest
# minute till then: of one product, none that's begun earlier reaches further. An end that isn't behind its minute
# tells that none holds then.
def latest_ends(product, stay, spans):
    ends = []
    latest = stay.begin
    for begin, end in spans:
        ends.extend([latest] * (begin - stay.begin - len(ends)))
        ends.extend(ends_in_span(product, begin, end))
        latest = ends[-1]
    ends.extend([latest] * (stay.end - stay.begin - len(ends)))
    return [minute - stay.begin for minute in ends]


def offers_of(tariff, stay):
    offers = [Offer(product, stay) for product in tariff.products]
    return [offer for offer in offers if len(offer.spans) > 0]


# The rest of each minute, counted from the stay's first one; behind the stay, as far as products reach, it's 0.
# It's told from the last minute backward, so that an end that isn't behind its minute still has too much there.
def rests_of(offers, stay):
    minutes = stay.end - stay.begin
    rests = [TOO_MUCH] * minutes + [0] * (WEEK + 1)
    sold = [(offer.product.cents, offer.ends) for offer in offers]
    for minute in range(minutes - 1, -1, -1):
        rests[minute] = min([cents + rests[ends[minute]] for cents, ends in sold])
    return rests


def price_of(tariff, stay):
    if stay.end - stay.begin <= tariff.free:
        return 0
    week_end = min(stay.end, stay.begin + WEEK)
    week = Stay(stay.begin, week_end, stay.car_class, stay.card)
    days_begun = (stay.end - week_end + DAY - 1) // DAY
    return rests_of(offers_of(tariff, week), week)[0] + days_begun * tariff.lost_cents


def first_that_fits(offers, rests, minute):
    for offer in offers:
        end = offer.ends[minute]
        if end > minute and offer.product.cents + rests[end] == rests[minute]:
            return offer
    return None


def latest_begin(offer, minute):
    latest = minute
    for begin, end in offer.spans:
        if begin <= minute:
            latest = min(minute, end - 1)
    return latest


# Of each product that's bought its number, its first minute, its end and its cents.
def row_of(offers, rests, stay):
    row = []
    minute = stay.begin
    while minute < stay.end:
        offer = first_that_fits(offers, rests, minute - stay.begin)
        begin = latest_begin(offer, minute)
        minute = end_of(offer.product, begin)
        row.append((offer.product.number, begin, minute, offer.product.cents))
    return row


# The minutes that have a weight above 0, each with it.
def weights_of(rests, stay):
    weights = []
    for minute in range(stay.begin, stay.end):
        weight = rests[minute - stay.begin] - rests[minute - stay.begin + 1]
        if weight > 0:
            weights.append((minute, weight))
    return weights


# The sums of the first weights: of none, of one, and so on.
def sums_of(weights):
    sums = [0]
    for weight in weights:
        sums.append(sums[-1] + weight)
    return sums


def first_overweight(product, stay, sums):
    for begin, end in spans_of(product, stay):
        for minute in range(begin, end):
            held_before = min(end_of(product, minute), stay.end)
            if sums[held_before - stay.begin] - sums[minute - stay.begin] > product.cents:
                return minute
    return None
