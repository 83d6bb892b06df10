"""An object that holds a land's rules, and the calls on it. Each gives back its answer's numbers."""

from landrules.folding import words_of
from landrules.grammar import read_rules
from landrules.reading import count_ways
from landrules.refusals import FAULT, NOT_SUCH, TOO_MANY_WAYS, TOO_MUCH, Fault, TooMuch
from landrules.signs import is_word, numbers_of, text_of

MOST_BYTES = 65536
FIRST_TOO_MANY = 9223372036854775808


class Land:
    def __init__(self):
        self.rules = None

    def take(self, numbers):
        if len(numbers) > MOST_BYTES:
            return [TOO_MUCH]
        try:
            self.rules = read_rules(text_of(numbers))
        except Fault as fault:
            return [FAULT, fault.place]
        return [0]

    def tell_count(self, what):
        rules = self.rules
        counts = [rules.line_count, len(rules.shapes), rules.short_count, rules.drop_count, len(rules.forms)]
        if what >= len(counts):
            return [NOT_SUCH]
        return [counts[what]]

    def tell_plain(self, numbers):
        word = text_of(numbers)
        if not is_word(word):
            return [NOT_SUCH]
        plain = self.rules.plain_word(word)
        if plain is None:
            return [0]
        return [1, len(plain)] + numbers_of(plain)

    def tell_ways(self, address):
        try:
            words = words_of(address)
        except TooMuch:
            return [TOO_MUCH]
        except Fault as fault:
            return [FAULT, fault.place]
        return answer_of_ways(count_ways(self.rules, words))


def answer_of_ways(how_many):
    if how_many >= FIRST_TOO_MANY:
        return [TOO_MANY_WAYS]
    return [how_many]
