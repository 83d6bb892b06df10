"""An object that holds a land's rules, and the calls on it. Each gives back its answer's numbers."""

from landrules.folding import words_of
from landrules.grammar import read_rules
from landrules.printing import is_printed_by, printed_by, read_parts
from landrules.reading import Reading
from landrules.refusals import NOT_HAD, NOT_SUCH, NOT_THERE, TOO_MANY_WAYS, TooMuch
from landrules.rules import KINDS
from landrules.signs import is_word, numbers_of, text_of
from landrules.ways import count_ways, find_way

MOST_BYTES = 65536
FIRST_TOO_MANY = 9223372036854775808


class Land:
    def __init__(self):
        self.rules = None

    def take(self, numbers):
        self.rules = read_rules(bounded_text_of(numbers))
        return [0]

    def tell_count(self, what):
        rules = self.rules
        counts = [rules.line_count, len(rules.shapes), rules.short_count, rules.drop_count, len(rules.forms)]
        if what >= len(counts):
            return [NOT_SUCH]
        return [counts[what]]

    def tell_plain(self, numbers):
        word = text_of(numbers)
        if not is_word(word):
            return [NOT_SUCH]
        plain = self.rules.plain_word(word)
        if plain is None:
            return [0]
        return [1] + answer_of_text(plain)

    def tell_ways(self, address):
        return answer_of_ways(count_ways(self.rules.forms, self.reading_of(address)))

    def tell_way(self, number, address):
        reading = self.reading_of(address)
        way = find_way(self.rules.forms, reading, number)
        if way is None:
            return [NOT_THERE]
        told = [len(way)]
        for kind, start, length in way:
            told.extend([kind, reading.word_numbers[start], length])
        return told

    def tell_part(self, number, kind, address):
        reading = self.reading_of(address)
        if kind >= len(KINDS):
            return [NOT_SUCH]
        way = find_way(self.rules.forms, reading, number)
        if way is None:
            return [NOT_THERE]
        for own_kind, start, length in way:
            if own_kind == kind:
                return answer_of_text(" ".join(reading.words[start:start + length]))
        return [NOT_HAD]

    def tell_print(self, number, numbers):
        parts = read_parts(bounded_text_of(numbers))
        if number >= len(self.rules.forms):
            return [NOT_THERE]
        form = self.rules.forms[number]
        if not is_printed_by(form, parts, self.rules.shapes):
            return [NOT_HAD]
        return answer_of_text(printed_by(form, parts))

    def reading_of(self, address):
        return Reading(self.rules, words_of(address))


def bounded_text_of(numbers):
    if len(numbers) > MOST_BYTES:
        raise TooMuch()
    return text_of(numbers)


def answer_of_ways(how_many):
    if how_many >= FIRST_TOO_MANY:
        return [TOO_MANY_WAYS]
    return [how_many]


def answer_of_text(text):
    return [len(text)] + numbers_of(text)
