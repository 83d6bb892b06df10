import random
import unittest

from tests.helper import (HEAD, KINDS, ask, in_chunks, kept_words, kind_of, numbers, part, plain_ways, random_form,
                          random_words, take, text_told, way, written_address, written_form)

GREATEST = 18446744073709551615
GREATEST_KIND = 4294967295

RULES = ("shape 9999aa\nshort street st str\ndrop the of\n"
         "form person / house / street number / district / town code / box / land\n")
ADDRESS = "Mr. X\nOld House\nThe Long St. 7-B\nWest\nBig the Town 1234 AB\n99\nLand of Oz"


def part_by(rules, i, kind, address):
    first, second = ask(take(rules), part(i, kind, address))
    assert first == [0], first
    return second


class Cases(unittest.TestCase):
    def tells(self, rules, i, kind, address, words):
        self.assertEqual(part_by(rules, i, kind, address), [len(words)] + numbers(words), (rules, i, kind, address))


class Parts(Cases):
    def test_each_kind(self):
        texts = ["mr x", "old house", "long street", "7 b", "west", "big town", "1234 ab", "99", "land oz"]
        for kind, words in enumerate(texts):
            self.tells(RULES, 0, kind, ADDRESS, words)

    def test_each_kind_by_itself(self):
        for kind, name in enumerate(KINDS):
            self.tells("shape 9\nform " + name + "\n", 0, kind, "(7)", "7")

    def test_shortened_words_as_they_are_read(self):
        self.tells("short street st\nform town\n", 0, 5, "ST st Street", "street street street")
        self.tells("short a b\nshort b c\nform town\n", 0, 5, "a b c", "a a b")
        self.tells("short 7 seven\nform number\n", 0, 3, "seven b", "7 b")
        self.tells("short " + "y" * 32 + " z\nform town\n", 0, 5, "z " * 8, " ".join(["y" * 32] * 8))

    def test_dropped_words_are_left_out(self):
        rules = "drop the of\nform street town\n"
        self.tells(rules, 0, 2, "the a of the b the c the", "a")
        self.tells(rules, 0, 5, "the a of the b the c the", "b c")
        self.tells(rules, 1, 2, "the a of the b the c the", "a b")
        self.tells("short a b\ndrop a\nform town\n", 0, 5, "a b a b", "a a")

    def test_folded_words(self):
        self.tells("form town\n", 0, 5, [0xC6, 0x300, 66, 44, 0x2116, 39, 83], "aeb nos")

    def test_in_each_way(self):
        for i, street, town in ((0, "a", "b c d"), (1, "a b", "c d"), (2, "a b c", "d")):
            self.tells("form street town\n", i, 2, "a b c d", street)
            self.tells("form street town\n", i, 5, "a b c d", town)

    def test_by_each_form(self):
        rules = "form town\nform street\nform land person\n"
        self.tells(rules, 0, 5, "a b", "a b")
        self.tells(rules, 1, 2, "a b", "a b")
        self.tells(rules, 2, 8, "a b", "a")
        self.tells(rules, 2, 0, "a b", "b")

    def test_beside_words_of_their_own(self):
        rules = "form =no number, =in town =a?\n"
        self.tells(rules, 0, 3, "no 7\nin b a", "7")
        self.tells(rules, 0, 5, "no 7\nin b a", "b")
        self.tells(rules, 1, 5, "no 7\nin b a", "b a")


class NoSuchKind(unittest.TestCase):
    def test_kinds_above_8(self):
        for kind in (9, 10, 255, 2147483648, GREATEST_KIND):
            for i in (0, 1, GREATEST):
                self.assertEqual(part_by("form town\nform =a\n", i, kind, "a"), [-1])
            self.assertEqual(part_by("drop a\n", 0, kind, "a"), [-1])
            self.assertEqual(part_by("form town\n", 0, kind, ""), [-1])

    def test_ahead_of_no_such_way(self):
        self.assertEqual(part_by("form town\n", 1, 8, "a"), [-4])
        self.assertEqual(part_by("form town\n", 1, 9, "a"), [-1])


class NoSuchWay(unittest.TestCase):
    def test_each_kind(self):
        for kind in range(9):
            for i in (2, 3, 9223372036854775808, GREATEST):
                self.assertEqual(part_by("form street town\n", i, kind, "a b c"), [-4])

    def test_no_forms_and_no_words(self):
        for rules, address in (("drop a\n", "b"), ("form town\n", ""), ("drop a\nform town\n", "a"),
                               ("form =b\n", "a")):
            for i in (0, GREATEST):
                self.assertEqual(part_by(rules, i, 5, address), [-4])


class NoSuchPart(unittest.TestCase):
    def test_the_form_has_no_such_kind(self):
        for kind in range(9):
            told = part_by("form street town\nform =a\n", 0, kind, "a b")
            self.assertEqual(told == [-3], kind not in (2, 5), kind)
        for kind in range(9):
            self.assertEqual(part_by("form =a\n", 0, kind, "a"), [-3])

    def test_only_another_form_has_it(self):
        rules = "form town\nform street\n"
        self.assertEqual(part_by(rules, 0, 2, "a"), [-3])
        self.assertEqual(part_by(rules, 1, 5, "a"), [-3])

    def test_it_is_left_out_in_this_way(self):
        rules = "form street? town land?\n"
        self.assertEqual(part_by(rules, 0, 2, "a b"), [-3])
        self.assertEqual(part_by(rules, 0, 8, "a b"), [1, 98])
        self.assertEqual(part_by(rules, 1, 2, "a b"), [-3])
        self.assertEqual(part_by(rules, 1, 8, "a b"), [-3])
        self.assertEqual(part_by(rules, 2, 2, "a b"), [1, 97])
        self.assertEqual(part_by(rules, 2, 8, "a b"), [-3])


class Refusals(unittest.TestCase):
    def test_the_address_comes_first(self):
        for kind in (0, 5, 8, 9, 10, GREATEST_KIND):
            for i in (0, 1, GREATEST):
                for rules in ("form town\n", "drop a\n"):
                    for address in ([32] * 513, [0] * 513, "a\n" * 9, "a " * 129, "z" * 33):
                        self.assertEqual(part_by(rules, i, kind, address), [-2])
                    self.assertEqual(part_by(rules, i, kind, [97, 55296]), [-6, 1])
                    self.assertEqual(part_by(rules, i, kind, numbers("a " * 129) + [-1]), [-6, 258])

    def test_the_bounds_that_just_hold(self):
        self.assertEqual(part_by("form town\n", 0, 5, "z" * 32), [32] + [122] * 32)
        self.assertEqual(part_by("form town\n", 0, 5, [32] * 511 + [97]), [1, 97])
        self.assertEqual(part_by("form town\n", 0, 5, "a\n" * 8), [-4])
        self.assertEqual(part_by("drop a\nform town\n", 0, 5, "a " * 127 + "b"), [1, 98])


class AgainstAPlainList(unittest.TestCase):
    def expected(self, row, items, kept):
        result = [[-3]] * 9 + [[-1]]
        start = 0
        for item, length in zip(items, row):
            if length and not item.startswith("="):
                words = " ".join(word for word, line in kept[start:start + length])
                result[kind_of(item)] = [len(words)] + numbers(words)
            start += length
        return result

    def test_random_forms(self):
        chance = random.Random(505)
        told_parts = 0
        for time in range(150):
            forms = [random_form(chance, 4) for number in range(2)]
            words = random_words(chance)
            kept = kept_words(words)
            expected = []
            for items, joints in forms:
                for row in plain_ways(items, joints, kept):
                    expected += self.expected(row, items, kept)
            rules = HEAD + "".join(written_form(items, joints) for items, joints in forms)
            address = written_address(words)
            calls = [part(i, kind, address) for i in range(len(expected) // 10) for kind in range(10)]
            self.assertEqual(in_chunks(rules, calls), expected, (rules, words))
            told_parts += sum(len(told) > 1 for told in expected)
        self.assertGreater(told_parts, 100)

    def test_as_many_words_as_way_tells(self):
        told = ask(take(RULES), way(0, ADDRESS), *[part(0, kind, ADDRESS) for kind in range(9)])
        for place in range(told[1][0]):
            kind, first, length = told[1][1 + 3 * place:4 + 3 * place]
            self.assertEqual(len(text_told(told[2 + kind]).split(" ")), length)


if __name__ == "__main__":
    unittest.main()
