"""Reads the parts to be printed, and prints them by a form."""

from landrules.fitting import words_fit
from landrules.reader import Reader
from landrules.rules import BLANK, KINDS, OWN_WORD

MOST_PART_WORDS = 8

# By strength: what's printed between two items.
BETWEEN = (" ", ", ", "\n")


# The words of each kind that's told.
def read_parts(text):
    reader = Reader(text)
    parts = {}
    while not reader.finished():
        kind = KINDS.index(reader.read_choice(names_not_told(parts)))
        reader.demand(" ")
        parts[kind] = reader.read_words(1, MOST_PART_WORDS)
        reader.demand("\n")
    return parts


def names_not_told(parts):
    return [name for kind, name in enumerate(KINDS) if kind not in parts]


def is_printed_by(form, parts, shapes):
    if not all([form.has_kind(kind) for kind in parts]):
        return False
    return all([item_agrees(item, parts, shapes) for item in form.pieces])


def item_agrees(item, parts, shapes):
    if item.kind in parts:
        return words_fit(item, parts[item.kind], shapes)
    return item.optional or item.kind == OWN_WORD


def printed_by(form, parts):
    text = ""
    strength = BLANK
    for item, joint in form.pieces_with_joints():
        words = words_printed(item, parts)
        if words:
            # Before the first item that's printed no part counts.
            between = BETWEEN[strength] if text else ""
            text += between + " ".join(words)
            strength = joint
        else:
            strength = max(strength, joint)
    return text


def words_printed(item, parts):
    if item.kind == OWN_WORD:
        return [] if item.optional else [item.word]
    return parts.get(item.kind, [])
