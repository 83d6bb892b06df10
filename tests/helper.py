"""Builds lists of calls, and takes lists of answers apart."""

from landrules.addresses import answers


def numbers(text):
    return [ord(sign) for sign in text] if isinstance(text, str) else list(text)


def with_length(text):
    row = numbers(text)
    return [len(row)] + row


def take(rules):
    return [0] + with_length(rules)


def count(what):
    return [1, what]


def plain(word):
    return [2] + with_length(word)


def ways(address):
    return [3] + with_length(address)


def way(i, address):
    return [4, i] + with_length(address)


def part(i, kind, address):
    return [5, i, kind] + with_length(address)


def printed(form, parts):
    return [6, form] + with_length(parts)


def apart(told):
    result = []
    place = 0
    while place < len(told):
        end = place + 1 + told[place]
        assert end <= len(told), told
        result.append(told[place + 1:end])
        place = end
    return result


def ask(*calls):
    result = apart(answers([number for call in calls for number in call]))
    assert len(result) == len(calls), result
    return result


def taken(rules):
    return ask(take(rules))[0]


def ways_by(rules, address):
    first, second = ask(take(rules), ways(address))
    assert first == [0], first
    return second
