"""The ways to read an address: how many there are, and which one has a number."""

from landrules.rules import BLANK, STRENGTHS


def count_ways(forms, reading):
    return sum([all_ways(counts_by(form, reading)) for form in forms])


# Ahead of the first item no part stands, so none is stronger than a blank there.
def all_ways(counts):
    return counts[0][BLANK][0]


# For each item, and for the form's end, the ways of the items from it on:
# counts[place][strength][start] is how many there are for just the words from start on,
# if this is the strongest part between them and the last item before them that has words.
def counts_by(form, reading):
    only_the_end = [0] * len(reading.words) + [1]
    counts = [[only_the_end for strength in STRENGTHS]]
    for item, joint in reversed(form.pieces_with_joints()):
        counts.append(with_item_before(item, joint, counts[-1], reading))
    counts.reverse()
    return counts


def with_item_before(item, joint, behind, reading):
    having_words = counts_having_words(reading.lengths_of(item), behind[joint])
    result = []
    for strength in STRENGTHS:
        counts = [count * link for count, link in zip(having_words, reading.links[strength])]
        if item.optional:
            left_out = behind[max(strength, joint)]
            counts = [count + other for count, other in zip(counts, left_out)]
        result.append(counts)
    return result


def counts_having_words(lengths_by_start, behind):
    counts = []
    for start, lengths in enumerate(lengths_by_start):
        counts.append(sum([behind[start + length] for length in lengths]))
    return counts


# Of each of the way's items that have words: its kind, where its words start among
# the kept ones, and how many it has. None, if there's no such way.
def find_way(forms, reading, number):
    for form in forms:
        counts = counts_by(form, reading)
        how_many = all_ways(counts)
        if number < how_many:
            return way_by(form, counts, reading, number)
        number -= how_many
    return None


def way_by(form, counts, reading, number):
    path = Path(reading, number)
    place = 0
    for item, joint in form.pieces_with_joints():
        place += 1
        path.pass_item(item, joint, counts[place])
    return path.way


# Goes along a form's items to one of its ways. What it has gone past is settled:
# number is that of the way among those that are still possible.
class Path:
    def __init__(self, reading, number):
        self.reading = reading
        self.number = number
        self.start = 0
        self.strength = BLANK
        self.way = []

    # Ways in which the item has fewer words come first, so they are counted off. Where it may
    # not begin with the word, all ways that are possible leave it out: no more lengths are tried.
    def pass_item(self, item, joint, behind):
        left_out = [0] if item.optional else []
        for length in left_out + self.reading.lengths_of(item)[self.start]:
            strength = joint if length > 0 else max(self.strength, joint)
            how_many = behind[strength][self.start + length]
            if self.number < how_many:
                self.settle(item, length, strength)
                return
            self.number -= how_many

    def settle(self, item, length, strength):
        if length > 0:
            self.way.append((item.kind, self.start, length))
        self.start += length
        self.strength = strength
