"""What a land's rules say, once their text has been read."""

KINDS = ("person", "house", "street", "number", "district", "town", "code", "box", "land")
NUMBER = 3
CODE = 6
BOX = 7
OWN_WORD = 9

# Greater is stronger, so that the strongest of several is the greatest.
BLANK = 0
COMMA = 1
STROKE = 2
STRENGTHS = (0, 1, 2)


class Item:
    def __init__(self, kind, word, optional):
        self.kind = kind
        self.word = word
        self.optional = optional


# joints[k] stands between pieces[k] and pieces[k + 1].
class Form:
    def __init__(self):
        self.pieces = []
        self.joints = []

    # Each item with the part behind it; a blank, the weakest, stands behind the last.
    def pieces_with_joints(self):
        return list(zip(self.pieces, self.joints + [BLANK]))

    def all_optional(self):
        return all([item.optional for item in self.pieces])

    def has_kind(self, kind):
        return any([item.kind == kind for item in self.pieces])


class Rules:
    def __init__(self):
        self.line_count = 0
        self.shapes = []
        self.short_count = 0
        self.drop_count = 0
        self.read_as = {}
        self.dropped = {}
        self.forms = []

    def add_short(self, words):
        self.short_count += len(words) - 1
        for word in words[1:]:
            # Of several short lines the first counts.
            self.read_as.setdefault(word, words[0])

    def add_drop(self, words):
        self.drop_count += len(words)
        for word in words:
            self.dropped[word] = True

    # None of a dropped word. What a word is read as is not looked at again.
    def plain_word(self, word):
        if word in self.dropped:
            return None
        return self.read_as.get(word, word)
