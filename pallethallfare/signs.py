"""Bytes as signs, and the forms of names and numbers."""

LETTERS = "abcdefghijklmnopqrstuvwxyz"
DIGITS = "0123456789"
MOST_NAME_SIGNS = 12
MOST_DIGITS = 9


# No right line and no name has a question mark, so it can stand for every byte that they can't have.
def sign_of(byte):
    if 97 <= byte <= 122:
        return LETTERS[byte - 97]
    if 48 <= byte <= 57:
        return DIGITS[byte - 48]
    if byte == 32:
        return " "
    if byte == 10:
        return "\n"
    return "?"


def text_of(row):
    return "".join([sign_of(byte) for byte in row])


# sign_of lets no other letters and digits through than those of a name.
def is_name(text):
    return len(text) <= MOST_NAME_SIGNS and text[:1].isalpha() and text.isalnum()


def is_number(text):
    return text.isdigit() and len(text) <= MOST_DIGITS and (text == "0" or text[0] != "0")
