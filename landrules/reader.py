"""Goes through a text sign by sign, and tells the first place at which it can't be right any more."""

from landrules.refusals import Fault
from landrules.signs import LETTERS, MOST_LETTERS


# Behind the text's end no sign is seen, so a text that breaks off has its fault at its length.
class Reader:
    def __init__(self, text):
        self.text = text
        self.place = 0

    def finished(self):
        return self.place == len(self.text)

    def sees(self, signs):
        return not self.finished() and self.text[self.place] in signs

    def accepts(self, sign):
        seen = self.sees(sign)
        if seen:
            self.place += 1
        return seen

    def demand(self, sign):
        if not self.accepts(sign):
            raise Fault(self.place)

    def read_run(self, signs, most):
        start = self.place
        while self.place - start < most and self.sees(signs):
            self.place += 1
        if self.place == start:
            raise Fault(self.place)
        return self.text[start:self.place]

    def read_word(self):
        return self.read_run(LETTERS, MOST_LETTERS)

    # Up to a line's end, which is left to be read.
    def read_words(self, least, most):
        words = [self.read_word()]
        while len(words) < least or (len(words) < most and not self.sees("\n")):
            self.demand(" ")
            words.append(self.read_word())
        return words

    # No choice may begin another one. All are followed at once, for the fault is
    # where the last of them stops being possible.
    def read_choice(self, choices):
        start = self.place
        possible = choices
        while True:
            depth = self.place - start
            possible = [choice for choice in possible if self.sees(choice[depth])]
            if not possible:
                raise Fault(self.place)
            self.place += 1
            if len(possible[0]) == depth + 1:
                return possible[0]
