"""Reads a rules' text. Each step asks only for signs with which the text can still become right."""

from landrules.reader import Reader
from landrules.rules import BLANK, CODE, COMMA, KINDS, OWN_WORD, STROKE, Form, Item, Rules

MOST_LINES = 512
MOST_SHAPES = 8
MOST_FORMS = 64
MOST_WORDS = 32
MOST_ITEMS = 16
MOST_SHAPE_SIGNS = 12

SHAPE_HEAD = "shape "
SHORT_HEAD = "short "
DROP_HEAD = "drop "
FORM_HEAD = "form "
OWN_MARK = "="


def read_rules(text):
    reader = Reader(text)
    rules = Rules()
    while rules.line_count == 0 or not reader.finished():
        read_line(reader, rules)
        rules.line_count += 1
    return rules


def read_line(reader, rules):
    head = reader.read_choice(possible_heads(rules))
    if head == SHAPE_HEAD:
        rules.shapes.append(reader.read_run("9a", MOST_SHAPE_SIGNS))
    elif head == SHORT_HEAD:
        rules.add_short(reader.read_words(2, MOST_WORDS))
    elif head == DROP_HEAD:
        rules.add_drop(reader.read_words(1, MOST_WORDS))
    else:
        rules.forms.append(read_form(reader, rules))
    reader.demand("\n")


def possible_heads(rules):
    if rules.line_count == MOST_LINES:
        return []
    heads = [SHORT_HEAD, DROP_HEAD]
    if len(rules.shapes) < MOST_SHAPES:
        heads.append(SHAPE_HEAD)
    if len(rules.forms) < MOST_FORMS:
        heads.append(FORM_HEAD)
    return heads


def read_form(reader, rules):
    form = Form()
    form.pieces.append(read_item(reader, form, rules))
    while not may_end(reader, form):
        form.joints.append(read_joint(reader))
        form.pieces.append(read_item(reader, form, rules))
    return form


def may_end(reader, form):
    if len(form.pieces) == MOST_ITEMS:
        return True
    return reader.sees("\n") and not form.all_optional()


def read_item(reader, form, rules):
    name = reader.read_choice(possible_names(form, rules))
    if name == OWN_MARK:
        kind = OWN_WORD
        word = reader.read_word()
    else:
        kind = KINDS.index(name)
        word = ""
    # Some item must stay that can't be left out: the last one possible, if none before.
    last_hope = len(form.pieces) == MOST_ITEMS - 1 and form.all_optional()
    optional = not last_hope and reader.accepts("?")
    return Item(kind, word, optional)


def possible_names(form, rules):
    names = [OWN_MARK]
    for kind, name in enumerate(KINDS):
        without_shape = kind == CODE and not rules.shapes
        if not without_shape and not form.has_kind(kind):
            names.append(name)
    return names


def read_joint(reader):
    if reader.accepts(","):
        reader.demand(" ")
        return COMMA
    reader.demand(" ")
    if reader.accepts("/"):
        reader.demand(" ")
        return STROKE
    return BLANK
