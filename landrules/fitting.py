"""Which words fit an item of a form."""

from landrules.rules import BOX, CODE, NUMBER, OWN_WORD

# By kind.
MOST_WORDS = (8, 8, 8, 2, 8, 8, 4, 1, 8, 1)
MOST_NUMBER_DIGITS = 5
MOST_BOX_DIGITS = 6


def words_fit(item, words, shapes):
    if not 1 <= len(words) <= MOST_WORDS[item.kind]:
        return False
    if item.kind == OWN_WORD:
        return words[0] == item.word
    if item.kind == NUMBER:
        return is_house_number(words)
    if item.kind == BOX:
        return is_counted(words[0], MOST_BOX_DIGITS)
    if item.kind == CODE:
        letters = "".join(words)
        return any([looks_like(letters, shape) for shape in shapes])
    return True


def is_house_number(words):
    if len(words) == 2:
        return is_counted(words[0], MOST_NUMBER_DIGITS) and is_one_letter(words[1])
    word = words[0]
    if is_one_letter(word[-1]):
        word = word[:-1]
    return is_counted(word, MOST_NUMBER_DIGITS)


def is_one_letter(word):
    return len(word) == 1 and word.isalpha()


def is_counted(word, most):
    return word.isdigit() and len(word) <= most and word[0] != "0"


def looks_like(letters, shape):
    if len(letters) != len(shape):
        return False
    return all([letter.isdigit() == (sign == "9") for letter, sign in zip(letters, shape)])
