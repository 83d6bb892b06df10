import random
import unittest

from tests.helper import (HEAD, JOINTS, KINDS, ask, kept_numbers, kept_words, numbers, plain_ways, random_form,
                          random_words, row_told, take, told_ways, way, ways_by, written_address, written_form)

GREATEST = 18446744073709551615


def way_by(rules, i, address):
    first, second = ask(take(rules), way(i, address))
    assert first == [0], first
    return second


class Cases(unittest.TestCase):
    def tells(self, rules, address, *rows):
        """Each row: kind, number of the first word, how many words, item by item."""
        expected = [[len(row) // 3] + list(row) for row in rows]
        self.assertEqual(told_ways(rules, address), expected, (rules, address))

    def has_none(self, rules, address):
        for i in (0, 1, 9223372036854775807, 9223372036854775808, GREATEST):
            self.assertEqual(way_by(rules, i, address), [-4], (rules, address))


class Order(Cases):
    def test_the_first_the_last_and_those_between(self):
        told = [[2, 2, 0, 1, 5, 1, 3], [2, 2, 0, 2, 5, 2, 2], [2, 2, 0, 3, 5, 3, 1]]
        for i in range(3):
            self.assertEqual(way_by("form street town\n", i, "a b c d"), told[i])

    def test_one_too_great(self):
        for i in (3, 4, 100, 4294967296, 9223372036854775807, 9223372036854775808, GREATEST - 1, GREATEST):
            self.assertEqual(way_by("form street town\n", i, "a b c d"), [-4])
        self.assertEqual(way_by("form town\n", 0, "a"), [1, 5, 0, 1])
        self.assertEqual(way_by("form town\n", 1, "a"), [-4])

    def test_the_lesser_number_first_at_the_first_item_at_which_they_differ(self):
        self.tells("form street district town\n", "a b c d",
                   (2, 0, 1, 4, 1, 1, 5, 2, 2), (2, 0, 1, 4, 1, 2, 5, 3, 1), (2, 0, 2, 4, 2, 1, 5, 3, 1))

    def test_an_item_left_out_before_the_same_with_words(self):
        self.tells("form street? town, land?\n", "a b", (5, 0, 1, 8, 1, 1), (5, 0, 2), (2, 0, 1, 5, 1, 1))
        self.tells("form street? town\n", "a b", (5, 0, 2), (2, 0, 1, 5, 1, 1))
        # The row 1, 1 stands before the row 2, 0: the first item is looked at first.
        self.tells("form street town?\n", "a b", (2, 0, 1, 5, 1, 1), (2, 0, 2))

    def test_by_the_number_of_the_form(self):
        self.tells("form town\nform street\nform =b\nform =a\nform town\n", "a",
                   (5, 0, 1), (2, 0, 1), (9, 0, 1), (5, 0, 1))

    def test_forms_with_several_ways_each(self):
        self.tells("form town land\nshape 9\nform =x\nform street? =c\nform box\nform town, land?\n", "a b c",
                   (5, 0, 1, 8, 1, 2), (5, 0, 2, 8, 2, 1), (2, 0, 2, 9, 2, 1), (5, 0, 1, 8, 1, 2),
                   (5, 0, 2, 8, 2, 1), (5, 0, 3))

    def test_the_last_of_one_form_and_the_first_of_the_next(self):
        rules = "form street town\nform =x\nform town street\n"
        self.assertEqual(way_by(rules, 1, "a b c"), [2, 2, 0, 2, 5, 2, 1])
        self.assertEqual(way_by(rules, 2, "a b c"), [2, 5, 0, 1, 2, 1, 2])

    def test_among_very_many(self):
        items = ["person?", "house?", "street?", "district?", "town?", "land"] + ["=a?"] * 10
        rules = "form " + " ".join(items) + "\n"
        address = "b " * 30
        how_many = ways_by(rules, address)[0]
        self.assertGreater(how_many, 1000)
        first = [4, 2, 0, 6, 4, 6, 8, 5, 14, 8, 8, 22, 8]
        last = [5, 0, 0, 8, 1, 8, 8, 2, 16, 8, 4, 24, 5, 8, 29, 1]
        for number in (0, 1, 31, 63):
            self.assertEqual(way_by(rules * 64, how_many * number, address), first)
            self.assertEqual(way_by(rules * 64, how_many * (number + 1) - 1, address), last)
        self.assertEqual(way_by(rules * 64, how_many * 64, address), [-4])


class Items(Cases):
    def test_items_that_are_left_out_are_not_told(self):
        self.tells("form person? / =x? street number? town?, =y? / land?\n", "a", (2, 0, 1))
        self.tells("form person?, =x?, =a, number?, =y?\n", "a", (9, 0, 1))

    def test_in_the_order_of_the_form(self):
        self.tells("form land / town / street\n", "a\nb\nc", (8, 0, 1, 5, 1, 1, 2, 2, 1))

    def test_each_kind(self):
        for kind, name in enumerate(KINDS):
            self.tells("shape 9\nform " + name + "\n", "7", (kind, 0, 1))
        self.tells("form =7\n", "7", (9, 0, 1))

    def test_words_of_their_own(self):
        self.tells("form =a town =a?\n", "a b a", (9, 0, 1, 5, 1, 1, 9, 2, 1), (9, 0, 1, 5, 1, 2))
        self.tells("form =a? =a?, =a\n", "a a", (9, 0, 1, 9, 1, 1), (9, 0, 1, 9, 1, 1))

    def test_how_many_words(self):
        self.tells("form town\n", "a b c d e f g h", (5, 0, 8))
        self.tells("form number town?\n", "7 b", (3, 0, 1, 5, 1, 1), (3, 0, 2))
        self.tells("shape 99aa\nform code\n", "1 2 a b", (6, 0, 4))
        self.tells("shape 9\nshape 99\nform code box\n", "1 2 3", (6, 0, 2, 7, 2, 1))

    def test_the_parts_between(self):
        for joint, one_line, two_lines in ((" ", 1, 0), (", ", 1, 1), (" / ", 0, 1)):
            rules = "form =a" + joint + "=x? =b\n"
            told = [(9, 0, 1, 9, 1, 1)]
            self.tells(rules, "a b", *told[:one_line])
            self.tells(rules, "a\nb", *told[:two_lines])

    def test_strongest_part_over_items_left_out(self):
        rules = "form street =x? / number? =y? town\n"
        self.tells(rules, "a b")
        self.tells(rules, "a\nb", (2, 0, 1, 5, 1, 1))
        self.tells(rules, "a\n7 b", (2, 0, 1, 5, 1, 2), (2, 0, 1, 3, 1, 1, 5, 2, 1))
        self.tells(rules, "a x\n7 b c",
                   (2, 0, 1, 9, 1, 1, 5, 2, 3), (2, 0, 1, 9, 1, 1, 3, 2, 1, 5, 3, 2),
                   (2, 0, 1, 9, 1, 1, 3, 2, 2, 5, 4, 1),
                   (2, 0, 2, 5, 2, 3), (2, 0, 2, 3, 2, 1, 5, 3, 2), (2, 0, 2, 3, 2, 2, 5, 4, 1))


class WordNumbers(Cases):
    rules = "drop the of\nform street number / town\n"

    def test_dropped_ones_count(self):
        self.tells(self.rules, "Long Road 7\nTown", (2, 0, 2, 3, 2, 1, 5, 3, 1))
        self.tells(self.rules, "the Long Road 7\nTown", (2, 1, 2, 3, 3, 1, 5, 4, 1))
        self.tells(self.rules, "Long the Road 7\nTown", (2, 0, 2, 3, 3, 1, 5, 4, 1))
        self.tells(self.rules, "Long Road of the 7\nTown", (2, 0, 2, 3, 4, 1, 5, 5, 1))
        self.tells(self.rules, "Long Road 7 of\nTown the", (2, 0, 2, 3, 2, 1, 5, 4, 1))
        self.tells(self.rules, "Long Road 7\nthe of\nTown", (2, 0, 2, 3, 2, 1, 5, 5, 1))

    def test_dropped_ones_before_within_and_behind_at_once(self):
        address = "The\nThe Long the Road of 7 the\nthe\nof the Town of Foo the\nof"
        self.tells(self.rules, address, (2, 2, 2, 3, 6, 1, 5, 11, 2))

    def test_nothing_but_words_counts(self):
        self.tells(self.rules, "\n\n - 'Long', ' Road 7\n--\n\n(Town)", (2, 0, 2, 3, 2, 1, 5, 3, 1))
        self.tells("form street town\n", ", - A's (B)\n'\n", (2, 0, 1, 5, 1, 1))

    def test_shortened_ones(self):
        self.tells("short street st\nform town =street\n", "a st", (5, 0, 1, 9, 1, 1))


class NoWay(Cases):
    def test_no_forms(self):
        for rules in ("shape 9\n", "drop a\n", "short a b\n"):
            for address in ("", "a", "a b\nc"):
                self.has_none(rules, address)

    def test_no_words(self):
        for address in ("", " ", "\n\n", "--", "'"):
            self.has_none("form town\nform =a town? =b?\n", address)
        self.has_none("drop a b\nform town\nform =a\n", "a b\na")

    def test_no_way_by_any_form(self):
        self.has_none("form =a\nform number\nform town / land\n", "b c")
        self.has_none("form town\n", "a " * 9)


class Refusals(unittest.TestCase):
    def answer(self, address):
        told = ask(take("form town\n"), way(0, address), way(1, address), way(GREATEST, address), way(0, "a"))
        self.assertEqual((told[0], told[4]), ([0], [1, 5, 0, 1]))
        self.assertEqual(told[2], told[3])
        return told[1], told[2]

    def test_too_much(self):
        for address in ([32] * 513, [0] * 513, "a\n" * 9, "a " * 129, "z" * 33):
            self.assertEqual(self.answer(address), ([-2], [-2]))

    def test_just_not_too_much(self):
        for address in ("a\n" * 8, "a " * 128):
            self.assertEqual(self.answer(address), ([-4], [-4]))
        for address in ([32] * 511 + [97], "z" * 32):
            self.assertEqual(self.answer(address), ([1, 5, 0, 1], [-4]))

    def test_no_wide_character(self):
        for number in (0, -1, -2147483648, 55296, 57343, 1114112, 2147483647):
            self.assertEqual(self.answer([97, 98, number, 0]), ([-6, 2], [-6, 2]))

    def test_the_order(self):
        for address in ("a\n" * 9, "a " * 129, "z" * 33):
            place = len(address)
            self.assertEqual(self.answer(numbers(address) + [0]), ([-6, place], [-6, place]))

    def test_the_bounds_ahead_of_the_way(self):
        for rules in ("drop a\n", "form =b\n"):
            self.assertEqual(ask(take(rules), way(0, [97] * 513), way(0, [0]), way(0, "a\n" * 9)),
                             [[0], [-2], [-6, 0], [-2]])


class AgainstAPlainList(unittest.TestCase):
    def test_random_forms(self):
        chance = random.Random(2044)
        several = 0
        for time in range(500):
            forms = [random_form(chance, 5) for number in range(chance.randint(1, 3))]
            words = random_words(chance)
            expected = []
            for items, joints in forms:
                rows = plain_ways(items, joints, kept_words(words))
                expected += [row_told(row, items, kept_numbers(words)) for row in rows]
            rules = HEAD + "".join(written_form(items, joints) for items, joints in forms)
            self.assertEqual(told_ways(rules, written_address(words)), expected, (rules, words))
            several += len(expected) > 1
        self.assertGreater(several, 100)

    def test_each_form_of_three_items(self):
        """Every choice of parts and of what may be left out, over words in all their lines."""
        for marks in ("", "?"), ("?", ""):
            for first_joint in JOINTS:
                for second_joint in JOINTS:
                    for middle in ("=a?", "town?", "number?", "town", "=a"):
                        items = ["street" + marks[0], middle, "land" + marks[1]]
                        self.hold(items, [first_joint, second_joint])

    def hold(self, items, joints):
        for count in (1, 2, 3):
            for breaks in range(2 ** (count - 1)):
                lines = [0, breaks & 1, (breaks & 1) + (breaks >> 1)][:count]
                words = list(zip(["1", "a", "b"], lines))
                expected = [row_told(row, items, [0, 1, 2]) for row in plain_ways(items, joints, words)]
                rules = HEAD + written_form(items, joints)
                self.assertEqual(told_ways(rules, written_address(words)), expected, (rules, words))

    def test_the_ways_of_one_form_are_told_once_each(self):
        """No word of its own stands in these forms, so that ways that differ are told differently."""
        chance = random.Random(8)
        for time in range(200):
            items, joints = random_form(chance, 6)
            if any(item.startswith("=") for item in items):
                continue
            told = told_ways(HEAD + written_form(items, joints), written_address(random_words(chance)))
            self.assertEqual(len({tuple(one) for one in told}), len(told))


if __name__ == "__main__":
    unittest.main()
