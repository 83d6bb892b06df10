"""Builds lists of calls, takes lists of answers apart, and reads addresses by trying all rows of numbers."""

import re

from landrules.addresses import answers

KINDS = ["person", "house", "street", "number", "district", "town", "code", "box", "land"]
OWN = 9
JOINTS = [" ", ", ", " / "]

# The rules' lines that stand before random forms, and the shapes they have.
HEAD = "shape 9\nshape 9a\nshape aa9\nshort a st\ndrop the\n"
SHAPES = ["9", "9a", "aa9"]


def numbers(text):
    return [ord(sign) for sign in text] if isinstance(text, str) else list(text)


def with_length(text):
    row = numbers(text)
    return [len(row)] + row


def take(rules):
    return [0] + with_length(rules)


def count(what):
    return [1, what]


def plain(word):
    return [2] + with_length(word)


def ways(address):
    return [3] + with_length(address)


def way(i, address):
    return [4, i] + with_length(address)


def part(i, kind, address):
    return [5, i, kind] + with_length(address)


def printed(form, parts):
    return [6, form] + with_length(parts)


def apart(told):
    result = []
    place = 0
    while place < len(told):
        end = place + 1 + told[place]
        assert end <= len(told), told
        result.append(told[place + 1:end])
        place = end
    return result


def ask(*calls):
    result = apart(answers([number for call in calls for number in call]))
    assert len(result) == len(calls), result
    return result


def taken(rules):
    return ask(take(rules))[0]


def ways_by(rules, address):
    first, second = ask(take(rules), ways(address))
    assert first == [0], first
    return second


def in_chunks(rules, calls):
    """Of any number of calls by the same rules, no more than a hundred in one list."""
    result = []
    for start in range(0, len(calls), 100):
        told = ask(take(rules), *calls[start:start + 100])
        assert told[0] == [0], told
        result += told[1:]
    return result


def told_ways(rules, address):
    """The answers of way, of all the ways that ways counts; one more is none."""
    how_many = ways_by(rules, address)[0]
    result = in_chunks(rules, [way(i, address) for i in range(how_many + 1)])
    assert result.pop() == [-4]
    assert [-4] not in result, result
    return result


def threes(told):
    """What way tells of each item that has words."""
    assert len(told) == 1 + 3 * told[0], told
    return [tuple(told[place:place + 3]) for place in range(1, len(told), 3)]


def text_told(told):
    """The text of an answer of part or print."""
    assert told[0] == len(told) - 1 and told[0] > 0, told
    return "".join(chr(byte) for byte in told[1:])


def one_fits(name, words, shapes):
    """The document's words on one item that has words, by patterns."""
    text = " ".join(words)
    if name.startswith("="):
        return text == name[1:]
    if name == "number":
        return bool(re.fullmatch("[1-9][0-9]{0,4}( ?[a-z])?", text))
    if name == "box":
        return bool(re.fullmatch("[1-9][0-9]{0,5}", text))
    if name == "code":
        patterns = [shape.replace("a", "[a-z]").replace("9", "[0-9]") for shape in shapes]
        return len(words) <= 4 and any(re.fullmatch(pattern, "".join(words)) for pattern in patterns)
    return 1 <= len(words) <= 8


def strongest_of(joints):
    return max(joints, key=JOINTS.index)


def is_way(row, items, joints, kept, shapes):
    start = 0
    last = None
    for place, length in enumerate(row):
        if length == 0:
            if not items[place].endswith("?"):
                return False
            continue
        own = kept[start:start + length]
        if len({line for word, line in own}) > 1:
            return False
        if not one_fits(items[place].rstrip("?"), [word for word, line in own], shapes):
            return False
        if last is not None:
            strongest = strongest_of(joints[last:place])
            same = kept[start - 1][1] == own[0][1]
            if (strongest == " " and not same) or (strongest == " / " and same):
                return False
        last = place
        start += length
    return start == len(kept)


def rows_of(length, total):
    if length == 0:
        return [()] if total == 0 else []
    return [(first,) + rest for first in range(total + 1) for rest in rows_of(length - 1, total - first)]


def plain_ways(items, joints, kept, shapes=SHAPES):
    """All rows of numbers that are ways, in order."""
    return [row for row in rows_of(len(items), len(kept)) if is_way(row, items, joints, kept, shapes)]


def kind_of(item):
    return OWN if item.startswith("=") else KINDS.index(item.rstrip("?"))


def row_told(row, items, word_numbers):
    """The answer of way of a row of numbers; word_numbers are those of the kept words."""
    told = [sum(length > 0 for length in row)]
    start = 0
    for item, length in zip(items, row):
        if length:
            told += [kind_of(item), word_numbers[start], length]
        start += length
    return told


def written_form(items, joints):
    return "form " + "".join(item + joint for item, joint in zip(items, joints + ["\n"]))


def form_without(place, items, joints):
    """The items and parts without one item, the strongest of its two parts in its place."""
    around = [strongest_of(joints[place - 1:place + 1])] if 0 < place < len(items) - 1 else []
    return items[:place] + items[place + 1:], joints[:max(place - 1, 0)] + around + joints[place + 1:]


def changed_text(text, chance):
    """Broken off somewhere, or with a sign less, another or more."""
    place = chance.randrange(len(text) + 1)
    sort = chance.randrange(4)
    if sort == 0:
        return text[:place]
    if sort == 1:
        return text[:place] + text[place + 1:]
    return text[:place] + chance.choice("\n ,/=?a9sdfhoptz!") + text[place + (sort == 2):]


def random_form(chance, most):
    while True:
        size = chance.randint(1, most)
        names = chance.sample(KINDS + ["=a", "=a", "=1", "=b"], size)
        items = [name + chance.choice(["", "?", "?"]) for name in names]
        if not all(item.endswith("?") for item in items):
            return items, [chance.choice(JOINTS) for number in range(size - 1)]


def random_words(chance):
    words = []
    line = 0
    for number in range(chance.randint(0, 6)):
        line += chance.random() < 0.3
        words.append((chance.choice(["a", "b", "1", "1", "1a", "aa", "st", "the", "0", "123456", "20"]), line))
    return words


def kept_words(words):
    """By HEAD."""
    return [("a" if word == "st" else word, line) for word, line in words if word != "the"]


def kept_numbers(words):
    return [number for number, (word, line) in enumerate(words) if word != "the"]


def written_address(words):
    text = ""
    line = 0
    for word, own_line in words:
        text += ("\n" if own_line != line else " ") + word
        line = own_line
    return text
