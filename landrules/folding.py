"""Folding: what each wide character stands for, and the words of an address."""

from landrules.refusals import Fault, TooMuch
from landrules.signs import MOST_LETTERS

MOST_CHARACTERS = 512
MOST_LINES = 8
MOST_WORDS = 128

LINE_END = 10
LAST_WIDE = 1114111
FIRST_NOT_WIDE = 55296
LAST_NOT_WIDE = 57343

# A first character, and what it and those that follow it stand for, a letter each.
ROWS_OF_LETTERS = (
    (0x61, "abcdefghijklmnopqrstuvwxyz"),
    (0x41, "abcdefghijklmnopqrstuvwxyz"),
    (0x30, "0123456789"),
    (0xB2, "23"),
    (0x2074, "456789"),
    (0x2080, "0123456789"),
    (0x218, "sstt"),
    (0xFF10, "0123456789"),
    (0xFF21, "abcdefghijklmnopqrstuvwxyz"),
    (0xFF41, "abcdefghijklmnopqrstuvwxyz"),
)

# A first and a last character, and what each from the one to the other stands for.
SAME_LETTERS = (
    (0xAA, 0xAA, "a"), (0xB9, 0xB9, "1"), (0xBA, 0xBA, "o"), (0x2070, 0x2070, "0"),
    (0xC0, 0xC5, "a"), (0xC6, 0xC6, "ae"), (0xC7, 0xC7, "c"), (0xC8, 0xCB, "e"), (0xCC, 0xCF, "i"),
    (0xD0, 0xD0, "d"), (0xD1, 0xD1, "n"), (0xD2, 0xD6, "o"), (0xD8, 0xD8, "o"), (0xD9, 0xDC, "u"),
    (0xDD, 0xDD, "y"), (0xDE, 0xDE, "th"), (0xDF, 0xDF, "ss"), (0xFF, 0xFF, "y"),
    (0x100, 0x105, "a"), (0x106, 0x10D, "c"), (0x10E, 0x111, "d"), (0x112, 0x11B, "e"), (0x11C, 0x123, "g"),
    (0x124, 0x127, "h"), (0x128, 0x131, "i"), (0x132, 0x133, "ij"), (0x134, 0x135, "j"), (0x136, 0x138, "k"),
    (0x139, 0x142, "l"), (0x143, 0x149, "n"), (0x14A, 0x14B, "ng"), (0x14C, 0x151, "o"), (0x152, 0x153, "oe"),
    (0x154, 0x159, "r"), (0x15A, 0x161, "s"), (0x162, 0x167, "t"), (0x168, 0x173, "u"), (0x174, 0x175, "w"),
    (0x176, 0x178, "y"), (0x179, 0x17E, "z"), (0x17F, 0x17F, "s"), (0x1E9E, 0x1E9E, "ss"), (0x2116, 0x2116, "no"),
    (0xFB00, 0xFB00, "ff"), (0xFB01, 0xFB01, "fi"), (0xFB02, 0xFB02, "fl"), (0xFB03, 0xFB03, "ffi"),
    (0xFB04, 0xFB04, "ffl"), (0xFB05, 0xFB06, "st"),
)

# From the first to the last of these a character is as the one 0x20 less.
FIRST_AS_LESS = 0xE0
LAST_AS_LESS = 0xFE

VANISHING = (
    (0x27, 0x27), (0x60, 0x60), (0xAD, 0xAD), (0xB4, 0xB4), (0x2BC, 0x2BC), (0x300, 0x36F),
    (0x200B, 0x200D), (0x2018, 0x2019), (0x2060, 0x2060), (0xFEFF, 0xFEFF),
)


def is_wide(number):
    return 1 <= number <= LAST_WIDE and not FIRST_NOT_WIDE <= number <= LAST_NOT_WIDE


def vanishes(character):
    return any([first <= character <= last for first, last in VANISHING])


# The empty text of a character that stands for no letters.
def letters_of(character):
    if FIRST_AS_LESS <= character <= LAST_AS_LESS:
        character = character - 0x20
    for first, letters in ROWS_OF_LETTERS:
        if first <= character < first + len(letters):
            return letters[character - first]
    for first, last, letters in SAME_LETTERS:
        if first <= character <= last:
            return letters
    return ""


# Each word with the number of its line.
def words_of(address):
    if len(address) > MOST_CHARACTERS:
        raise TooMuch()
    for place, number in enumerate(address):
        if not is_wide(number):
            raise Fault(place)
    words = gathered_words(address)
    if is_too_much(words):
        raise TooMuch()
    return words


def gathered_words(address):
    words = []
    word = ""
    line = 0
    for character in address:
        letters = letters_of(character)
        word += letters
        if letters or vanishes(character):
            continue
        if word:
            words.append((word, line))
            word = ""
        # A line without words is none, so its end doesn't count.
        if character == LINE_END and words and words[-1][1] == line:
            line += 1
    if word:
        words.append((word, line))
    return words


def is_too_much(words):
    if len(words) > MOST_WORDS:
        return True
    return any([line >= MOST_LINES or len(word) > MOST_LETTERS for word, line in words])
