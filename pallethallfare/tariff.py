"""Tariffs: what a text tells, or its first fault."""

from pallethallfare.limits import DAY, MOST_CENTS, MOST_CLASS, WEEK
from pallethallfare.signs import is_name, is_number, text_of

HEAD_WORDS = ("tariff", "free", "grace", "lost")
HEAD_BOUNDS = (0, 120, 60, 99999)
MOST_PRODUCTS = 12

NO_FAULT = 0
NO_SUCH_LINE = 1
OUT_OF_BOUNDS = 2
NAME_TWICE = 3
ONE_TOO_MANY = 4
NONE_OF_ANY_TIME = 5


class Product:
    # Of minutes and till one is None: a product holds for so many minutes, or till a time of the day. card is "" for
    # one that asks for none.
    def __init__(self, number, words):
        is_flat = words[0] == "flat"
        self.number = number
        self.cents = int(words[2])
        self.minutes = None if is_flat else int(words[3])
        self.till = int(words[3]) if is_flat else None
        self.weekdays = words[4]
        self.begins_from = int(words[5])
        self.begins_before = int(words[6])
        self.most_class = int(words[7])
        self.first_only = words[8:9] == ["first"]
        self.card = words[-1] if "card" in words[8:-1] else ""


class Tariff:
    def __init__(self, text, lines):
        self.text = text
        self.free = int(lines[1].split(" ")[1])
        self.grace = int(lines[2].split(" ")[1])
        self.lost_cents = int(lines[3].split(" ")[1])
        self.products = [Product(number, line.split(" ")) for number, line in enumerate(lines[4:-1])]


def head_fault(line, words):
    if len(words) != 2 or words[0] != HEAD_WORDS[line]:
        return NO_SUCH_LINE
    if line == 0:
        return NO_FAULT if is_name(words[1]) else NO_SUCH_LINE
    if not is_number(words[1]):
        return NO_SUCH_LINE
    return NO_FAULT if int(words[1]) <= HEAD_BOUNDS[line] else OUT_OF_BOUNDS


def are_weekdays(word):
    return len(word) == 7 and word.count("0") + word.count("1") == 7


def is_ending(words):
    asked = words[1:] if words[:1] == ["first"] else words
    return asked == [] or (len(asked) == 2 and asked[0] == "card" and is_name(asked[1]))


def has_product_form(words):
    if len(words) < 8 or words[0] not in ("buy", "flat"):
        return False
    numbers = words[2:4] + words[5:8]
    if not all([is_number(word) for word in numbers]):
        return False
    return is_name(words[1]) and are_weekdays(words[4]) and is_ending(words[8:])


def is_within_bounds(words):
    held = int(words[3])
    if words[0] == "buy":
        holds = 1 <= held <= WEEK
    else:
        holds = held < DAY
    begins = int(words[5]) < int(words[6]) <= DAY
    return holds and begins and int(words[2]) <= MOST_CENTS and 1 <= int(words[7]) <= MOST_CLASS


def product_fault(words, earlier):
    if not has_product_form(words):
        return NO_SUCH_LINE
    if not is_within_bounds(words):
        return OUT_OF_BOUNDS
    if words[1] in earlier:
        return NAME_TWICE
    if len(earlier) == MOST_PRODUCTS:
        return ONE_TOO_MANY
    return NO_FAULT


def is_of_any_time(words):
    return words[4:] == ["1111111", "0", "1440", "4"]


def end_fault(lines, names):
    if lines[-1] != "" or len(names) == 0:
        return NO_SUCH_LINE
    if not any([is_of_any_time(line.split(" ")) for line in lines[len(HEAD_WORDS):-1]]):
        return NONE_OF_ANY_TIME
    return NO_FAULT


# The last of the lines is what stands behind the last byte 10.
def first_fault(lines):
    names = {}
    for line in range(len(lines) - 1):
        words = lines[line].split(" ")
        in_head = line < len(HEAD_WORDS)
        kind = head_fault(line, words) if in_head else product_fault(words, names)
        if kind != NO_FAULT:
            return (kind, line)
        if not in_head:
            names[words[1]] = True
    return (end_fault(lines, names), len(lines) - 1)


def lines_of(text):
    return text_of(text).split("\n")
