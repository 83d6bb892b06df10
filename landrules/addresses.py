"""The interface: a list of calls on one new object, and the list of their answers."""

from landrules.land import Land
from landrules.refusals import FAULT, NO_RULES, TOO_MUCH, Fault, TooMuch

TAKE = 0
COUNT = 1
PLAIN = 2
WAYS = 3
WAY = 4
PART = 5

# By the call's number: how many whole numbers stand behind it. All but count have a row, too.
WHOLE_NUMBERS = (0, 1, 0, 0, 1, 2, 1)


def answers(calls):
    land = Land()
    told = []
    place = 0
    while place < len(calls):
        call = calls[place]
        row_place = place + 1 + WHOLE_NUMBERS[call]
        wholes = calls[place + 1:row_place]
        row = []
        place = row_place
        if call != COUNT:
            place = row_place + 1 + calls[row_place]
            row = calls[row_place + 1:place]
        answer = answer_call(land, call, wholes, row)
        told.append(len(answer))
        told.extend(answer)
    return told


def answer_call(land, call, wholes, row):
    try:
        return told_by(land, call, wholes, row)
    except TooMuch:
        return [TOO_MUCH]
    except Fault as fault:
        return [FAULT, fault.place]


def told_by(land, call, wholes, row):
    if call == TAKE:
        return land.take(row)
    if land.rules is None:
        return [NO_RULES]
    if call == COUNT:
        return land.tell_count(wholes[0])
    if call == PLAIN:
        return land.tell_plain(row)
    if call == WAYS:
        return land.tell_ways(row)
    if call == WAY:
        return land.tell_way(wholes[0], row)
    if call == PART:
        return land.tell_part(wholes[0], wholes[1], row)
    return land.tell_print(wholes[0], row)
