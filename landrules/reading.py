"""An address as it's read: its kept words, and where items may begin and end among them."""

from landrules.fitting import MOST_WORDS, words_fit
from landrules.rules import BLANK, STRENGTHS, STROKE


# The kept words of one address, each as it's read, with its number among all
# the address's words and the number of its line.
class Reading:
    def __init__(self, rules, words):
        self.shapes = rules.shapes
        self.words = []
        self.word_numbers = []
        self.word_lines = []
        number = 0
        for word, line in words:
            plain = rules.plain_word(word)
            if plain is not None:
                self.words.append(plain)
                self.word_numbers.append(number)
                self.word_lines.append(line)
            number += 1
        self.links = [self.links_by(strength) for strength in STRENGTHS]
        self.known_lengths = {}

    # For each word 1 or 0: whether an item may begin with it, if this is the strongest
    # part behind the item that ends before it. Before the first word no item has words,
    # so no part counts there. One more stands for the end, where no item begins.
    def links_by(self, strength):
        links = [1]
        for before, line in zip(self.word_lines, self.word_lines[1:]):
            barred = (strength == BLANK and before != line) or (strength == STROKE and before == line)
            links.append(0 if barred else 1)
        return links + [0]

    # For each word: how many words from it on may be the item's, the lesser numbers first;
    # one more, the empty one, stands for the end. Items that are alike stand in many forms,
    # so what was found out is kept while the address is read.
    def lengths_of(self, item):
        alike = (item.kind, item.word)
        if alike not in self.known_lengths:
            lengths = [self.lengths_from(item, start) for start in range(len(self.words))]
            self.known_lengths[alike] = lengths + [[]]
        return self.known_lengths[alike]

    def lengths_from(self, item, start):
        lengths = []
        end = start + 1
        most_end = min(start + MOST_WORDS[item.kind], len(self.words))
        while end <= most_end and self.word_lines[end - 1] == self.word_lines[start]:
            if words_fit(item, self.words[start:end], self.shapes):
                lengths.append(end - start)
            end += 1
        return lengths
