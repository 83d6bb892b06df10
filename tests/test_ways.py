import itertools
import random
import unittest

from landrules.fitting import words_fit
from landrules.land import answer_of_ways
from landrules.rules import Item
from tests.helper import (HEAD, ask, form_without, kept_words, plain_ways, random_form, random_words, take, ways,
                          ways_by, written_address, written_form)


class Cases(unittest.TestCase):
    def counts(self, rules, address, how_many):
        self.assertEqual(ways_by(rules, address), [how_many], (rules, address))


class NothingToRead(Cases):
    def test_no_words_at_all(self):
        for address in ("", " ", "\n\n", "--", "'"):
            self.counts("form town\nform =a town? =b?\n", address, 0)
        self.counts("drop a b\nform town\nform =a\n", "a b\na", 0)

    def test_no_forms(self):
        for rules in ("shape 9\n", "drop a\n", "short a b\n"):
            self.counts(rules, "a", 0)
            self.counts(rules, "", 0)


class Items(Cases):
    def fit(self, item, addresses, shapes=""):
        for address in addresses:
            self.counts(shapes + "form " + item + "\n", address, 1)

    def misfit(self, item, addresses, shapes=""):
        for address in addresses:
            self.counts(shapes + "form " + item + "\n", address, 0)

    def test_number_of_one_word(self):
        self.fit("number", ["1", "9", "10", "12345", "99999", "1a", "12345z", "20B", "100"])
        self.misfit("number", ["0", "01", "0a", "123456", "123456a", "a", "a1", "1ab", "12ab", "1a1", "town", "1a2b",
                               "00001"])

    def test_number_of_two_words(self):
        self.fit("number", ["1 a", "12345 z", "7-C"])
        self.misfit("number", ["1 2", "1a b", "0 a", "123456 a", "a 1", "1 ab", "1 a b", "a b", "1\na", "1 1a", "1 0"])

    def test_box(self):
        self.fit("box", ["1", "123456", "900000"])
        self.misfit("box", ["0", "012345", "1234567", "1a", "a", "1 2", "123 456", "1 a", "1\n2"])

    def test_code(self):
        shapes = "shape 9999aa\nshape a9\n"
        self.fit("code", ["1234ab", "1234 AB", "12 34 AB", "1 2 34ab", "1 234 a b", "x1", "x 1", "0000zz"], shapes)
        self.misfit("code", ["1 2 3 4 ab", "1 2 34 a b", "1234a", "1234abc", "12345a", "123aab", "1x", "1234\nab",
                             "ab1234", "x", "1", "x1 x1", "x10"], shapes)

    def test_code_by_a_shape_of_twelve(self):
        self.fit("code", ["123456789012", "1234 5678 9012", "123 456 789 012"], "shape 999999999999\n")
        self.misfit("code", ["12345678901", "1234567890123", "12 34 56 78 9012"], "shape 999999999999\n")

    def test_all_shapes_count_wherever_they_stand(self):
        rules = "shape 9\nform code\nshape aa\n"
        self.counts(rules, "7", 1)
        self.counts(rules, "ab", 1)
        self.counts(rules, "a b", 1)
        self.counts(rules, "a7", 0)

    def test_a_code_that_looks_like_two_shapes_is_one_way(self):
        self.counts("shape 9\nshape 9\nform code\n", "7", 1)

    def test_the_others_have_1_to_8_words(self):
        for kind in ("person", "house", "street", "district", "town", "land"):
            for length in range(1, 9):
                self.counts("form " + kind + "\n", "a " * length, 1)
            for address in ("a " * 9, "1 " * 9, "a\nb", "a b\nc"):
                self.counts("form " + kind + "\n", address, 0)
            self.counts("form " + kind + "\n", "0 12 x9 " + "z" * 32, 1)

    def test_how_many_words_may_fit(self):
        for kind, most in enumerate((8, 8, 8, 2, 8, 8, 4, 1, 8, 1)):
            item = Item(kind, "1", False)
            self.assertFalse(words_fit(item, [], ["9"]))
            self.assertTrue(words_fit(item, ["1"], ["9"]))
            self.assertTrue(words_fit(item, ["1", "a", "a", "a", "a", "a", "a", "a"][:most], ["9", "9aaa"]))
            self.assertFalse(words_fit(item, ["1", "a", "a", "a", "a", "a", "a", "a", "a"][:most + 1], ["9aaaa"]))

    def test_a_word_of_its_own(self):
        self.fit("=no", ["no", "NO", "n'o", chr(0x2116), "\n(no)\n"])
        self.misfit("=no", ["n", "noo", "no no", "n o", "on", "n\no", ""])
        self.fit("=1 =1", ["1 1"])
        self.misfit("=1 =1", ["1", "1 1 1", "11"])

    def test_an_items_words_stand_in_one_line(self):
        self.counts("form street, town\n", "a b\nc d", 1)
        self.counts("form street, town\n", "a\nb\nc", 0)
        self.counts("form street, town, land\n", "a b\nc d", 2)
        self.counts("shape 99\nform code, town\n", "1\n2 a", 0)
        self.counts("form number, town\n", "1\na", 1)
        self.counts("form number, town\n", "1 a\na", 1)

    def test_each_item_that_cannot_be_left_out_has_words(self):
        self.counts("form street town\n", "a", 0)
        self.counts("form street? town\n", "a", 1)
        self.counts("form street town?\n", "a", 1)
        self.counts("form =a town?\n", "b", 0)

    def test_all_words_are_some_items(self):
        self.counts("form =a =b\n", "a b c", 0)
        self.counts("form =b =c\n", "a b c", 0)
        self.counts("form =a =c\n", "a b c", 0)

    def test_in_order(self):
        self.counts("form =a =b\n", "b a", 0)
        self.counts("form =a? =b?, =a\n", "b a", 1)


class Joints(Cases):
    def test_a_blank_asks_for_one_line(self):
        self.counts("form =a =b\n", "a b", 1)
        self.counts("form =a =b\n", "a\nb", 0)

    def test_a_comma_asks_for_nothing(self):
        self.counts("form =a, =b\n", "a b", 1)
        self.counts("form =a, =b\n", "a\nb", 1)
        self.counts("form =a, =b\n", "a,b", 1)

    def test_a_stroke_asks_for_different_lines(self):
        self.counts("form =a / =b\n", "a b", 0)
        self.counts("form =a / =b\n", "a\nb", 1)
        self.counts("form =a / =b\n", "a\n\n-\nb", 1)
        self.counts("drop x\nform =a / =b\n", "a\nx\nb", 1)
        self.counts("drop x\nform =a =b\n", "a x b", 1)
        self.counts("drop x\nform =a =b\n", "a x\nx b", 0)

    def test_the_strongest_counts_where_items_between_are_left_out(self):
        for first, second, one_line, two_lines in ((" ", " ", 1, 0), (" ", ", ", 1, 1), (", ", " ", 1, 1),
                                                   (", ", ", ", 1, 1), (" ", " / ", 0, 1), (" / ", " ", 0, 1),
                                                   (", ", " / ", 0, 1), (" / ", ", ", 0, 1), (" / ", " / ", 0, 1)):
            rules = "form =a" + first + "=x?" + second + "=b\n"
            self.counts(rules, "a b", one_line)
            self.counts(rules, "a\nb", two_lines)

    def test_over_several_items_left_out(self):
        self.counts("form =a =x? / =x? =x? =b\n", "a\nb", 1)
        self.counts("form =a =x? / =x? =x? =b\n", "a b", 0)
        self.counts("form =a =x? / =x? =x? =b\n", "a x\nb", 1)
        self.counts("form =a =x? / =x? =x? =b\n", "a\nx b", 2)
        self.counts("form =a =x?, =x? =x? =b\n", "a x b", 3)
        self.counts("form =a =x?, =x? =x? =b\n", "a x\nb", 1)

    def test_an_item_with_words_between_parts_them(self):
        self.counts("form =a / =x? =b\n", "a\nx b", 1)
        self.counts("form =a / =x? =b\n", "a x\nb", 0)
        self.counts("form =a =x? / =b\n", "a x\nb", 1)

    def test_ahead_of_the_first_item_with_words(self):
        self.counts("form =x? / =a =b\n", "a b", 1)
        self.counts("form =x? / =a =b\n", "a\nb", 0)
        self.counts("form =x?, =y? / =a\n", "a", 1)
        self.counts("form =x? =y? / =a / =b\n", "a\nb", 1)

    def test_behind_the_last_item_with_words(self):
        self.counts("form =a / =x?\n", "a", 1)
        self.counts("form =a =b / =x?, =y?\n", "a b", 1)
        self.counts("form =a =b / =x? / =y?\n", "a\nb", 0)


class Whole(Cases):
    def test_several_forms_are_added_up(self):
        self.counts("form street town\n", "a b c d", 3)
        self.counts("form street town\nform town\nform =x\nform street town\n", "a b c d", 7)

    def test_an_address(self):
        rules = ("shape 9999aa\nshort street st str\ndrop the of\n"
                 "form person / street number / code town\nform street number, town code? / land?\n")
        self.counts(rules, "The Mr. X\nLong Str 12 b\n1234 AB Town of Foo", 1)
        self.counts(rules, "Long St 12\nFoo 1234AB", 2)
        self.counts(rules, "Long St 12, Foo 1234AB\nLand", 2)

    def test_dropped_words_say_nothing(self):
        rules = "drop the\nform =a town\n"
        self.counts(rules, "the a the b the", 1)
        self.counts(rules, "the a the b the c the the", 1)
        self.counts("drop the\nform =the town?\n", "the", 0)
        self.counts("drop the\nform =the? town\n", "the b", 1)
        self.counts("drop the\nform town\n", "the " * 9 + "b", 1)
        self.counts("drop the\nshape 99\nform code\n", "1 the 2", 1)

    def test_a_word_and_what_it_is_shortened_for_say_the_same(self):
        rules = "short street st str\nform town =street\n"
        for word in ("street", "st", "Str", "St."):
            self.counts(rules, "long " + word, 1)
        self.counts(rules, "long stree", 0)

    def test_a_forms_own_word_is_not_shortened(self):
        self.counts("short street st\nform =st\n", "st", 0)
        self.counts("short street st\nform =st\n", "street", 0)

    def test_words_are_fitted_as_they_are_read(self):
        self.counts("short 1 one\nform number\n", "one", 1)
        self.counts("short one 1\nform number\n", "1", 0)
        self.counts("short ab x\nshape aa9\nform code\n", "x 7", 1)
        self.counts("short x b\nshort a x\nform =x\n", "b", 1)
        self.counts("short a b\ndrop a\nform =a\n", "b", 1)

    def test_the_largest(self):
        items = ["person?", "house?", "street?", "district?", "town?", "land"] + ["=a?"] * 10
        rules = ("form " + " ".join(items) + "\n") * 64
        expected = sum(1 for row in itertools.product(range(9), repeat=5) if 0 <= 30 - sum(row) - 1 < 8)
        self.counts(rules, "b " * 30, 64 * expected)

    def test_own_words_many_times(self):
        items = ["=a?"] * 15 + ["=a"]
        rules = "form " + ", ".join(items) + "\n"
        self.counts(rules, "a " * 8, 6435)
        self.counts(rules, "a\n" * 8, 6435)
        self.counts(rules, "a " * 17, 0)

    def test_too_many_ways(self):
        # No address within the bounds has so many, so the step by itself is asked.
        self.assertEqual(answer_of_ways(9223372036854775807), [9223372036854775807])
        self.assertEqual(answer_of_ways(9223372036854775808), [-9])
        self.assertEqual(answer_of_ways(9223372036854775809), [-9])


class AgainstAPlainCount(Cases):
    def test_random_forms(self):
        chance = random.Random(1116)
        above = 0
        for time in range(700):
            forms = [random_form(chance, 5) for number in range(chance.randint(1, 2))]
            words = random_words(chance)
            expected = sum(len(plain_ways(items, joints, kept_words(words))) for items, joints in forms)
            rules = HEAD + "".join(written_form(items, joints) for items, joints in forms)
            self.counts(rules, written_address(words), expected)
            above += expected > 0
        self.assertGreater(above, 100)

    def test_dropped_and_shortened_words_say_the_same(self):
        chance = random.Random(61)
        for time in range(200):
            items, joints = random_form(chance, 6)
            words = random_words(chance)
            rules = HEAD + written_form(items, joints)
            told = ask(take(rules), ways(written_address(words)), ways(written_address(kept_words(words))))
            self.assertEqual(told[1], told[2])

    def test_what_may_be_left_out(self):
        """With it and without it, added up, are all ways; without it they're those of a form without it."""
        chance = random.Random(16)
        above = 0
        for time in range(500):
            items, joints = random_form(chance, 6)
            places = [place for place, item in enumerate(items) if item.endswith("?")]
            if not places:
                continue
            place = chance.choice(places)
            needed = items[:place] + [items[place][:-1]] + items[place + 1:]
            address = written_address(random_words(chance))
            counts = []
            for some_items, some_joints in ((items, joints), (needed, joints), form_without(place, items, joints)):
                counts.append(ways_by(HEAD + written_form(some_items, some_joints), address)[0])
            self.assertEqual(counts[0], counts[1] + counts[2], (items, joints, address))
            above += counts[2] > 0
        self.assertGreater(above, 50)


if __name__ == "__main__":
    unittest.main()
