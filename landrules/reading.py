"""How many ways there are to read an address."""

from landrules.fitting import MOST_WORDS, words_fit
from landrules.rules import BLANK, COMMA, STRENGTHS, STROKE


# The kept words of one address, each as it's read, and the numbers of their lines.
class Reading:
    def __init__(self, rules, words):
        self.shapes = rules.shapes
        self.words = []
        self.word_lines = []
        for word, line in words:
            plain = rules.plain_word(word)
            if plain is not None:
                self.words.append(plain)
                self.word_lines.append(line)
        self.links = [self.links_by(strength) for strength in STRENGTHS]
        self.known_lengths = {}

    # For each word 1 or 0: whether an item may begin with it, if this is the strongest
    # part behind the item that ends before it. Before the first word no item has words,
    # so no part counts there. One more stands for the end, where no item begins.
    def links_by(self, strength):
        links = [1]
        for before, line in zip(self.word_lines, self.word_lines[1:]):
            barred = (strength == BLANK and before != line) or (strength == STROKE and before == line)
            links.append(0 if barred else 1)
        return links + [0]

    # For each word: how many words from it on may be the item's. Items that are alike
    # stand in many forms, so what was found out is kept while the address is read.
    def lengths_of(self, item):
        alike = (item.kind, item.word)
        if alike not in self.known_lengths:
            lengths = [self.lengths_from(item, start) for start in range(len(self.words))]
            self.known_lengths[alike] = lengths
        return self.known_lengths[alike]

    def lengths_from(self, item, start):
        lengths = []
        end = start + 1
        most_end = min(start + MOST_WORDS[item.kind], len(self.words))
        while end <= most_end and self.word_lines[end - 1] == self.word_lines[start]:
            if words_fit(item, self.words[start:end], self.shapes):
                lengths.append(end - start)
            end += 1
        return lengths


def count_ways(rules, words):
    reading = Reading(rules, words)
    return sum([count_ways_by(form, reading) for form in rules.forms])


# From the last item to the first: behind[strength][start] is how many ways the items gone
# through so far have for just the words from start on, if this is the strongest part
# between them and the last item before them that has words.
def count_ways_by(form, reading):
    only_the_end = [0] * len(reading.words) + [1]
    behind = [only_the_end for strength in STRENGTHS]
    for item, joint in reversed(list(zip(form.pieces, form.joints + [BLANK]))):
        behind = with_item_before(item, joint, behind, reading)
    return behind[BLANK][0]


def with_item_before(item, joint, behind, reading):
    having_words = counts_having_words(reading.lengths_of(item), behind[joint])
    result = []
    for strength in STRENGTHS:
        counts = [count * link for count, link in zip(having_words, reading.links[strength])]
        if item.optional:
            left_out = behind[max(strength, joint)]
            counts = [count + other for count, other in zip(counts, left_out)]
        result.append(counts)
    return result


def counts_having_words(lengths_by_start, behind):
    counts = []
    for start, lengths in enumerate(lengths_by_start):
        counts.append(sum([behind[start + length] for length in lengths]))
    return counts + [0]
