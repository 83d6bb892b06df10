import random
import re
import unittest

from landrules.addresses import answer_call
from landrules.land import Land
from tests.helper import KINDS, changed_text, numbers, taken

OWN_ITEMS = ["=a"] * 16


def form_of(items):
    return "form " + " ".join(items) + "\n"


class Cases(unittest.TestCase):
    def right(self, rules):
        self.assertEqual(taken(rules), [0], rules)

    def wrong(self, rules, place):
        self.assertEqual(taken(rules), [-6, place], rules)

    def wrong_at_end(self, rules):
        self.wrong(rules, len(numbers(rules)) - 1)

    def breaks_off(self, rules):
        self.wrong(rules, len(rules))


class Lines(Cases):
    def test_right_lines_of_each_kind(self):
        for rules in ("shape 9\n", "shape a9\n", "short a b\n", "short street str st\n", "drop a\n", "drop the of 4\n",
                      "form town\n", "form =a\n", "form street number?, code town / land\n"):
            self.right(rules if "code" not in rules else "shape 9\n" + rules)

    def test_right_lines_one_behind_another(self):
        self.right("form town\nshape 9a\nform =no? code\ndrop a\nshort a b c\nshape 99\n")

    def test_the_empty_text(self):
        self.wrong("", 0)

    def test_every_beginning_breaks_off(self):
        rules = "shape 9a\nshort ab c\ndrop d e\nform person?, =no number / code town? land\n"
        for length in range(len(rules)):
            if not rules[:length].endswith("\n"):
                self.breaks_off(rules[:length])
        self.right(rules)

    def test_a_line_that_begins_as_none_does(self):
        for first in ("x", "\n", " ", "S", "9", "=", "\t", "#"):
            self.wrong_at_end(first)
            self.wrong_at_end("drop a\n" + first)
        for begin in ("sx", "s ", "shx", "she", "sh ", "sh\n", "shab", "shop", "dx", "dri", "dropp", "drop\n", "fa",
                      "fork", "forms", "form\n", "shape9", "shapes", "shorts", "short\n"):
            self.wrong_at_end(begin)

    def test_bytes_that_are_no_signs(self):
        for byte in (0, 1, 9, 11, 13, 31, 33, 127, 128, 160, 229, 255):
            self.wrong([byte], 0)
            self.wrong(numbers("drop a") + [byte], 6)
            self.wrong(numbers("shape 9") + [byte], 7)
            self.wrong(numbers("form =") + [byte], 6)
            self.wrong(numbers("form town") + [byte], 9)

    def test_512_and_513_lines(self):
        self.right("drop a\n" * 512)
        for more in ("d", "drop a\n", "s", "f", "\n", "x"):
            self.wrong("drop a\n" * 512 + more, 512 * 7)
        self.breaks_off("drop a\n" * 511 + "drop a")

    def test_a_carriage_return_is_no_line_end(self):
        self.wrong("drop a\r\n", 6)


class Shapes(Cases):
    def test_12_and_13_signs(self):
        self.right("shape 9a9a9a9a9a9a\n")
        self.wrong("shape 9a9a9a9a9a9a9\n", 18)
        self.wrong("shape 9a9a9a9a9a9aa\n", 18)
        self.breaks_off("shape 9a9a9a9a9a9a")

    def test_no_sign_and_wrong_signs(self):
        self.wrong("shape \n", 6)
        self.wrong("shape  9\n", 6)
        for sign in "08bA -=?":
            self.wrong("shape 9" + sign, 7)
            self.wrong("shape " + sign, 6)

    def test_8_and_9_shapes(self):
        eight = "shape 9\n" * 8
        self.right(eight)
        self.wrong(eight + "shape 9\n", len(eight) + 2)
        self.breaks_off(eight + "sh")
        self.right(eight + "short a b\n")
        self.right("shape 9\n" * 7 + "drop a\n" + "shape a\n" + "form code\n")
        self.breaks_off("shape 9\n" * 7 + "sha")


class Words(Cases):
    def test_32_and_33_letters(self):
        for begin, end in (("short ", " a\n"), ("short a ", "\n"), ("drop ", "\n"), ("form =", "\n"), ("drop a ", "\n")):
            self.right(begin + "z" * 32 + end)
            self.wrong(begin + "z" * 33 + end, len(begin) + 32)
            self.breaks_off(begin + "0" * 32)

    def test_letters_are_a_to_z_and_0_to_9(self):
        self.right("drop abcdefghijklmnopqrstuvwxyz 0123456789\n")
        for sign in "A Z@[`{/:-_'.":
            if sign != " ":
                self.wrong("drop a" + sign, 6)
                self.wrong("drop " + sign, 5)
                self.wrong("short a b" + sign, 9)
                self.wrong("form =a" + sign, 7)

    def test_short_with_one_word_only(self):
        self.wrong("short a\n", 7)
        self.wrong("short \n", 6)
        self.wrong("short a \n", 8)
        self.breaks_off("short a")

    def test_drop_without_a_word(self):
        self.wrong("drop\n", 4)
        self.wrong("drop \n", 5)

    def test_32_and_33_words(self):
        for head in ("short", "drop"):
            self.right(head + " a" * 32 + "\n")
            self.wrong(head + " a" * 33 + "\n", len(head) + 64)
            self.wrong(head + " a" * 32 + " ", len(head) + 64)
            self.breaks_off(head + " a" * 32)

    def test_two_blanks(self):
        self.wrong("drop  a\n", 5)
        self.wrong("drop a  b\n", 7)
        self.wrong("short  a b\n", 6)
        self.wrong("short a  b\n", 8)
        self.wrong("short a b  c\n", 10)

    def test_a_blank_at_a_lines_end(self):
        self.wrong("shape 9 \n", 7)
        self.wrong("drop a \n", 7)
        self.wrong("short a b \n", 10)
        self.wrong("form town \n", 10)

    def test_words_that_stand_several_times(self):
        self.right("short a a a\ndrop a a\nshort a b\nshort b a\ndrop b\n")


class Forms(Cases):
    def test_each_kind_of_item(self):
        for kind in KINDS:
            self.right("shape 9\nform " + kind + "\n")
            self.right("shape 9\nform =a " + kind + "?\n")
        self.right("shape 9\nform " + " ".join(KINDS) + "\n")

    def test_a_kind_that_is_none(self):
        for begin in ("x", "e", "pa", "persona", "persons", "ho\n", "streat", "numbers", "dis ", "towns", "lane", "boy",
                      "Town", "?", "\n", ",", "/", " "):
            place = {"persona": 6, "persons": 6, "streat": 4, "numbers": 6, "towns": 4}.get(begin)
            place = 5 + (len(begin) - 1 if place is None else place)
            if begin == "Town":
                place = 5
            self.wrong("form " + begin, place)

    def test_64_and_65_forms(self):
        many = "form =a\n" * 64
        self.right(many)
        self.wrong(many + "form =a\n", len(many))
        self.right(many + "drop a\n")
        self.breaks_off("form =a\n" * 63 + "f")

    def test_16_and_17_items(self):
        self.right(form_of(OWN_ITEMS))
        sixteen = form_of(OWN_ITEMS)[:-1]
        for joint in (" =a\n", ", =a\n", " / =a\n"):
            self.wrong(sixteen + joint, len(sixteen))
        self.right(sixteen + "?\n")
        self.wrong(sixteen + "? =a\n", len(sixteen) + 1)
        self.wrong(sixteen + "?,", len(sixteen) + 1)
        self.breaks_off(sixteen)
        self.breaks_off(sixteen + "?")
        self.breaks_off(form_of(OWN_ITEMS[1:])[:-1] + " ")

    def test_no_item(self):
        self.wrong("form \n", 5)
        self.wrong("form ?\n", 5)

    def test_the_parts_between_items(self):
        for joint in (" ", ", ", " / "):
            self.right("form town" + joint + "land\n")
            self.right("form town?" + joint + "=a\n")
            self.right("form =a" + joint + "land?\n")

    def test_parts_that_are_none(self):
        for joint, place in (("  ", 1), (",", 1), (" ,", 1), (", ,", 2), (",  ", 2), (", /", 2), (",/", 1), ("/", 0),
                             ("/ ", 0), (" /", 2), (" //", 2), (" /  ", 3), (" / / ", 3), (" / , ", 3), (",, ", 1),
                             (", / ", 2), (" /, ", 2), ("\t", 0)):
            self.wrong("form town" + joint + "land\n", 9 + place)
            self.wrong("form =a?" + joint + "land\n", 8 + place)

    def test_parts_that_break_off(self):
        for joint in (" ", ",", ", ", " /", " / "):
            self.breaks_off("form town" + joint)
            self.wrong("form town" + joint + "\n", 9 + len(joint))

    def test_a_kind_that_stands_twice(self):
        for kind in KINDS:
            begin = "shape 9\nform " + kind
            for between in (" ", "?, ", " / ", " =a ", "? =b? / "):
                self.wrong(begin + between + kind + "\n", len(begin + between))
        self.right("form town\nform town\n")

    def test_a_word_of_its_own_twice(self):
        self.right("form =a =a\n")
        self.right("form =a? / =a, =a?\n")

    def test_own_mark_without_a_word(self):
        for sign in "\n ?,/=A":
            self.wrong("form =" + sign, 6)
            self.wrong("form town, =" + sign, 12)
        self.breaks_off("form =")

    def test_code_stands_behind_a_shape(self):
        self.wrong("form code\n", 5)
        self.wrong("form town code\n", 10)
        self.wrong("form code\nshape 9\n", 5)
        self.right("shape 9\nform code\n")
        self.right("shape a\ndrop a\nform town\nform town code\n")

    def test_a_question_mark_twice(self):
        self.wrong("form =a town??\n", 13)
        self.wrong("form town??\n", 10)
        self.wrong("form =a?? town\n", 8)
        self.wrong("form town ?\n", 10)

    def test_all_may_be_left_out(self):
        self.wrong("form town?\n", 10)
        self.wrong("form town? =a? land?\n", 20)
        self.breaks_off("form town? =a? land?")
        self.right("form town? =a? land\n")
        fifteen = form_of(["=a?"] * 15)[:-1]
        self.wrong(fifteen + "\n", len(fifteen))
        self.right(fifteen + " =a\n")
        self.wrong(fifteen + " =a?\n", len(fifteen) + 3)
        self.wrong(fifteen + " town?\n", len(fifteen) + 5)
        self.right(fifteen + " town\n")
        self.right(form_of(["=a?"] * 14 + ["=a", "=a?"]))
        self.right(form_of(["=a"] + ["=a?"] * 15))


class Size(unittest.TestCase):
    def test_more_than_65536_bytes(self):
        # Lists so long aren't handed in through the interface, so the object itself is asked.
        land = Land()
        self.assertEqual(answer_call(land, 0, [], [120] * 65536), [-6, 0])
        self.assertEqual(answer_call(land, 0, [], [120] * 65537), [-2])
        self.assertEqual(answer_call(land, 0, [], numbers("drop a\n" * 513) + [120] * 70000), [-2])
        self.assertIsNone(land.rules)


WORD = "[a-z0-9]{1,32}"
ITEM = "(?:" + "|".join(KINDS) + "|=" + WORD + r")\??"
LINE = re.compile(f"shape [9a]{{1,12}}|short {WORD}(?: {WORD}){{1,31}}|drop(?: {WORD}){{1,32}}"
                  f"|form {ITEM}(?:(?: |, | / ){ITEM}){{0,15}}")


def is_right_form(line, shapes):
    items = [item for item in re.split("[ ,/]+", line[5:])]
    kinds = [item.rstrip("?") for item in items if not item.startswith("=")]
    if "code" in kinds and not shapes:
        return False
    return len(set(kinds)) == len(kinds) and not all(item.endswith("?") for item in items)


def is_right(text):
    """The document's words read plainly, of a whole text, without a thought of places."""
    if not text.endswith("\n") or text.count("\n") > 512:
        return False
    shapes = forms = 0
    for line in text[:-1].split("\n"):
        if not LINE.fullmatch(line):
            return False
        shapes += line.startswith("shape")
        forms += line.startswith("form")
        if line.startswith("form") and not is_right_form(line, shapes):
            return False
    return shapes <= 8 and forms <= 64


SAMPLES = ["shape 9\n", "short a a\n", "drop a\n", "form =a\n"] + ["form %s\n" % kind for kind in KINDS] + [
    "form =a / =a\n", "form =a, =a\n"]
ENDINGS = sorted({line[start:] for line in SAMPLES for start in range(len(line))} | {""})


def begins_a_right_text(text):
    return any(is_right(text + ending) for ending in ENDINGS)


def plain_answer(text):
    if is_right(text):
        return [0]
    # What begins a right text does so with each of its own beginnings: halving finds the place.
    good, bad = 0, len(text) + 1
    while bad - good > 1:
        middle = (good + bad) // 2
        if begins_a_right_text(text[:middle]):
            good = middle
        else:
            bad = middle
    return [-6, good]


class AgainstThePlainWords(unittest.TestCase):
    def random_line(self, chance):
        sort = chance.randrange(4)
        words = [chance.choice(["a", "st", "z9", "q" * 31, "q" * 32]) for number in range(chance.choice([1, 2, 3, 31, 32]))]
        if sort == 0:
            return "shape " + "".join(chance.choice("9a") for number in range(chance.randint(1, 12)))
        if sort == 1:
            return "short a " + " ".join(words[:31])
        if sort == 2:
            return "drop " + " ".join(words)
        items = [chance.choice(KINDS + ["=a", "=no"]) + chance.choice(["", "?"])
                 for number in range(chance.choice([1, 2, 3, 5, 16]))]
        return "form " + "".join(item + chance.choice([" ", ", ", " / "]) for item in items).rstrip(" ,/")

    def test_random_texts(self):
        chance = random.Random(20261116)
        places = 0
        for time in range(500):
            text = "".join(self.random_line(chance) + "\n" for number in range(chance.randint(1, 3)))
            for change in range(chance.randrange(3)):
                text = changed_text(text, chance)
            expected = plain_answer(text)
            places += expected != [0]
            self.assertEqual(taken(text), expected, text)
        self.assertGreater(places, 100)
        self.assertLess(places, 480)

    def test_every_next_sign(self):
        for begin in ("", "s", "sh", "shape 9", "short a", "short a b", "drop a", "form town", "form town?", "form =a ",
                      "form =a,", "form =a /", "form =a, ", "form =a / ", "form =a town ", "shape 9\nform ", "form =",
                      "form =a?", form_of(["=a?"] * 15)[:-1], form_of(["=a?"] * 15)[:-1] + " =b",
                      form_of(OWN_ITEMS)[:-1], "shape 9\n" * 8, "shape 9\n" * 8 + "sh", "form =a\n" * 64):
            for sign in "\n !,/09:=?AZ[`{abcdefhilmnoprstuvwxyz\x00\xff":
                self.assertEqual(taken(begin + sign), plain_answer(begin + sign), begin + sign)


if __name__ == "__main__":
    unittest.main()
