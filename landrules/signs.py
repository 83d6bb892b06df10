"""Bytes as texts of signs, so that the rest of the program can speak of words."""

LETTERS = "0123456789abcdefghijklmnopqrstuvwxyz"
SIGNS = "0123456789abcdefghijklmnopqrstuvwxyz\n ,/=?"
MOST_LETTERS = 32

# Stands for every byte that no right text has: such bytes need not be told apart.
STRANGE_SIGN = "!"


def text_of(numbers):
    signs = dict([(ord(sign), sign) for sign in SIGNS])
    return "".join([signs.get(number, STRANGE_SIGN) for number in numbers])


def numbers_of(text):
    return [ord(sign) for sign in text]


def is_word(text):
    return 1 <= len(text) <= MOST_LETTERS and all([sign in LETTERS for sign in text])
