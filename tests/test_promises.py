"""The promises that hold over several calls. The first is test_take's."""

import random
import unittest

from tests.helper import (HEAD, JOINTS, KINDS, ask, form_without, in_chunks, kept_words, part, plain_ways, printed,
                          random_form, random_words, take, text_told, threes, told_ways, ways, ways_by, written_address,
                          written_form)


def parts_of_ways(rules, address, chosen):
    """Of each chosen way the parts it's read into, by kind."""
    told = in_chunks(rules, [part(i, kind, address) for i in chosen for kind in range(9)])
    result = []
    for place in range(0, len(told), 9):
        answers = told[place:place + 9]
        result.append({kind: text_told(answer) for kind, answer in enumerate(answers) if answer != [-3]})
    return result


def without_numbers(told):
    return [[(kind, length) for kind, first, length in threes(one)] for one in told]


class Promise2(unittest.TestCase):
    """What's dropped says nothing, a word and what it's shortened for say the same."""

    rules = "short street st str\ndrop the of\nform street number / town\nform person, town / land?\n"

    def same(self, rules, first, second):
        told = told_ways(rules, first)
        others = told_ways(rules, second)
        self.assertEqual(without_numbers(told), without_numbers(others), (rules, first, second))
        chosen = range(min(len(told), 12))
        self.assertEqual(parts_of_ways(rules, first, chosen), parts_of_ways(rules, second, chosen))
        return len(told)

    def test_dropped_words_put_in(self):
        address = "long street 7\nbig town"
        self.assertEqual(ways_by(self.rules, address), [4])
        for other in ("the long street 7\nbig town", "long the street 7\nbig town", "long street of the 7\nbig town",
                      "long street 7 the\nbig town", "long street 7\nthe big of town of",
                      "The\nlong street 7\nbig town", "long street 7\nof the\nbig town",
                      "long street 7\nbig town\nthe"):
            self.same(self.rules, address, other)

    def test_shortened_words(self):
        for other in ("long st 7\nbig town", "long STR. 7\nbig town", "the long st 7\nbig of town"):
            self.same(self.rules, "long street 7\nbig town", other)

    def with_dropped(self, words, chance):
        result = []
        for word, line in words:
            result += [("the", line)] * chance.choice([0, 0, 1, 2]) + [(word, line)]
            result += [("the", line)] * chance.choice([0, 0, 1])
        return result

    def test_random_addresses(self):
        chance = random.Random(2)
        above = 0
        for time in range(150):
            forms = [random_form(chance, 5) for number in range(2)]
            rules = HEAD + "".join(written_form(items, joints) for items, joints in forms)
            words = random_words(chance)
            kept = kept_words(words)
            shortened = [("st" if word == "a" else word, line) for word, line in kept]
            for others in (kept, shortened, self.with_dropped(words, chance), self.with_dropped(shortened, chance)):
                above += self.same(rules, written_address(words), written_address(others)) > 0
        self.assertGreater(above, 100)


class Promise3(unittest.TestCase):
    """What's printed by a form is read by it into just the parts that were told."""

    def random_words_of(self, kind, chance):
        if kind == "number":
            return chance.choice(["1", "20", "7 b", "12345z"])
        if kind == "box":
            return chance.choice(["1", "123456"])
        if kind == "code":
            return chance.choice(["1", "0", "1 x", "1x", "q q 0", "bb7"])
        words = [chance.choice(["b", "c", "d", "1", "x7", "0"]) for number in range(chance.choice([1, 1, 2, 3, 8]))]
        return " ".join(words)

    def random_parts(self, items, chance):
        told = {}
        for item in items:
            if not item.startswith("=") and (not item.endswith("?") or chance.random() < 0.5):
                told[item.rstrip("?")] = self.random_words_of(item.rstrip("?"), chance)
        return told

    def holds(self, forms, number, told):
        written = [written_form(items, joints) for items, joints in forms]
        rules = HEAD + "".join(written)
        parts = "".join(kind + " " + words + "\n" for kind, words in told.items())
        address = text_told(ask(take(rules), printed(number, parts))[1])
        first = ways_by(HEAD + "".join(written[:number]), address)[0]
        behind = ways_by(HEAD + "".join(written[:number + 1]), address)[0]
        expected = {KINDS.index(kind): words for kind, words in told.items()}
        for start in range(first, behind, 50):
            if expected in parts_of_ways(rules, address, range(start, min(start + 50, behind))):
                return
        self.fail((rules, number, parts, address))

    def test_one(self):
        forms = [(["street", "number", "town", "land?"], [" ", " / ", ", "]), (["town", "=x?"], [" "])]
        self.holds(forms, 0, {"town": "b c", "street": "d", "number": "7 b"})
        self.holds(forms, 0, {"land": "b", "town": "b c", "street": "d", "number": "7 b"})
        self.holds(forms, 1, {"town": "b x"})

    def test_own_words_alone(self):
        self.holds([(["=b", "=c?", "=d", "town?"], [" ", " / ", ", "])], 0, {})

    def test_the_most_items(self):
        items = [item for kind in KINDS[:7] for item in (kind, "=m")] + KINDS[7:]
        for joints in ([" "] * 15, [", "] * 15, [" / ", " "] * 7 + [" "], [" ", ", ", " / "] * 5):
            for seed in range(5):
                self.holds([(items, joints)], 0, self.random_parts(items, random.Random(seed)))

    def test_random_forms(self):
        chance = random.Random(3)
        for time in range(200):
            # Their own words are a, b and 1, which nothing in HEAD drops or shortens.
            forms = [random_form(chance, 5) for number in range(chance.randint(1, 3))]
            number = chance.randrange(len(forms))
            self.holds(forms, number, self.random_parts(forms[number][0], chance))


class Promise4(unittest.TestCase):
    """Left out, an item leaves the others' ways as they'd be in a form without it."""

    def holds(self, place, items, joints, words):
        first = told_ways(HEAD + written_form(items, joints), written_address(words))
        second = told_ways(HEAD + written_form(*form_without(place, items, joints)), written_address(words))
        rows = plain_ways(items, joints, kept_words(words))
        self.assertEqual(len(rows), len(first))
        left_out = [told for told, row in zip(first, rows) if row[place] == 0]
        self.assertEqual(left_out, second, (items, joints, words))
        return len(second)

    def test_each_choice_of_parts(self):
        for first_joint in JOINTS:
            for second_joint in JOINTS:
                for lines in ((0, 0), (0, 1)):
                    words = list(zip(["b", "b"], lines))
                    for place, items in ((1, ["street", "town?", "land"]), (0, ["street?", "town", "land"]),
                                         (2, ["street", "town", "land?"]), (1, ["street?", "=b?", "town"])):
                        self.holds(place, items, [first_joint, second_joint], words)

    def test_by_the_kinds_that_are_told(self):
        """The same by way's own words alone."""
        address = "b c\nd e"
        for joints in ((" ", ", "), (", ", " / "), (" / ", " ")):
            first = told_ways("form street" + joints[0] + "town?" + joints[1] + "land\n", address)
            second = told_ways("form street" + max(joints, key=JOINTS.index) + "land\n", address)
            self.assertEqual([one for one in first if 5 not in [kind for kind, number, length in threes(one)]], second)

    def test_random_forms(self):
        chance = random.Random(4)
        above = 0
        for time in range(500):
            items, joints = random_form(chance, 6)
            places = [place for place, item in enumerate(items) if item.endswith("?")]
            if places:
                above += self.holds(chance.choice(places), items, joints, random_words(chance)) > 0
        self.assertGreater(above, 50)


class Together(unittest.TestCase):
    def test_an_address_printed_and_read_again(self):
        rules = "shape 9999aa\nshort street st\ndrop the\nform street number / code town\n"
        address = "The Long St 7b\n1234 AB Town"
        told = ask(take(rules), ways(address), *[part(0, kind, address) for kind in (2, 3, 6, 5)])
        self.assertEqual(told[1], [1])
        texts = [text_told(answer) for answer in told[2:]]
        parts = "".join(name + " " + text + "\n" for name, text in zip(("street", "number", "code", "town"), texts))
        self.assertEqual(text_told(ask(take(rules), printed(0, parts))[1]), "long street 7b\n1234 ab town")


if __name__ == "__main__":
    unittest.main()
