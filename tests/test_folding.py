import unittest

from landrules.folding import words_of
from tests.helper import ask, numbers, take, ways, ways_by

HEXADECIMAL_VANISHING = ([0x27, 0x60, 0xAD, 0xB4, 0x2BC] + list(range(0x300, 0x370)) + [0x200B, 0x200C, 0x200D]
                         + [0x2018, 0x2019, 0x2060, 0xFEFF])


def ranged(first, last, letters):
    return {character: letters for character in range(first, last + 1)}


def in_turn(first, letters):
    return {first + place: letter for place, letter in enumerate(letters)}


def written_table():
    """The document's table, row by row."""
    alphabet = "abcdefghijklmnopqrstuvwxyz"
    digits = "0123456789"
    table = {}
    for row in (in_turn(0x30, digits), in_turn(0x61, alphabet), in_turn(0x41, alphabet),
                {0xAA: "a", 0xBA: "o", 0xB9: "1", 0xB2: "2", 0xB3: "3", 0x2070: "0"},
                in_turn(0x2074, "456789"), in_turn(0x2080, digits),
                ranged(0xC0, 0xC5, "a"), {0xC7: "c"}, ranged(0xC8, 0xCB, "e"), ranged(0xCC, 0xCF, "i"), {0xD0: "d"},
                {0xD1: "n"}, ranged(0xD2, 0xD6, "o"), {0xD8: "o"}, ranged(0xD9, 0xDC, "u"), {0xDD: "y"},
                {0xC6: "ae", 0xDE: "th", 0xDF: "ss"},
                ranged(0xE0, 0xE5, "a"), {0xE6: "ae", 0xE7: "c"}, ranged(0xE8, 0xEB, "e"), ranged(0xEC, 0xEF, "i"),
                {0xF0: "d", 0xF1: "n"}, ranged(0xF2, 0xF6, "o"), {0xF8: "o"}, ranged(0xF9, 0xFC, "u"),
                {0xFD: "y", 0xFE: "th", 0xFF: "y"},
                ranged(0x100, 0x105, "a"), ranged(0x106, 0x10D, "c"), ranged(0x10E, 0x111, "d"),
                ranged(0x112, 0x11B, "e"), ranged(0x11C, 0x123, "g"), ranged(0x124, 0x127, "h"),
                ranged(0x128, 0x131, "i"), {0x134: "j", 0x135: "j"}, ranged(0x136, 0x138, "k"),
                {0x132: "ij", 0x133: "ij", 0x152: "oe", 0x153: "oe", 0x14A: "ng", 0x14B: "ng"},
                ranged(0x139, 0x142, "l"), ranged(0x143, 0x149, "n"), ranged(0x14C, 0x151, "o"),
                ranged(0x154, 0x159, "r"), ranged(0x15A, 0x161, "s"), ranged(0x162, 0x167, "t"),
                ranged(0x168, 0x173, "u"), {0x174: "w", 0x175: "w"}, ranged(0x176, 0x178, "y"),
                ranged(0x179, 0x17E, "z"), {0x17F: "s"},
                in_turn(0x218, "sstt"), {0x1E9E: "ss", 0x2116: "no"},
                in_turn(0xFB00, ["ff", "fi", "fl", "ffi", "ffl", "st", "st"]),
                in_turn(0xFF10, digits), in_turn(0xFF21, alphabet), in_turn(0xFF41, alphabet)):
        assert not set(row) & set(table)
        table.update(row)
    return table


TABLE = written_table()


def many_wide():
    """All of the first two planes, and some of the others."""
    first = [number for number in range(1, 0x20000) if not 55296 <= number <= 57343]
    return first + list(range(0x20000, 0x110000, 0x101)) + [0x10FFFF]


def interesting():
    """Each character that's told of, and its neighbours."""
    told = list(TABLE) + HEXADECIMAL_VANISHING + [10, 1, 0xD7, 0xF7, 0xD7FF, 0xE000, 0x10FFFF]
    near = {character + step for character in told for step in (-1, 0, 1)}
    return sorted(near & set(range(1, 0xD800)) | near & set(range(0xE000, 0x110000)))


def expected_words(character):
    """Of q, the character, 7."""
    if character in TABLE:
        return [("q" + TABLE[character] + "7", 0)]
    if character in HEXADECIMAL_VANISHING:
        return [("q7", 0)]
    return [("q", 0), ("7", 1 if character == 10 else 0)]


class Characters(unittest.TestCase):
    def test_all_characters(self):
        for character in many_wide():
            words = words_of([113, character, 55])
            if words != expected_words(character):
                self.fail("%x: %r" % (character, words))

    def test_through_the_calls(self):
        for character in interesting():
            words = expected_words(character)
            joint = " / " if character == 10 else " "
            form = "form " + joint.join("=" + word for word, line in words) + "\n"
            self.assertEqual(ways_by(form, [113, character, 55]), [1], "%x" % character)

    def test_two_that_part(self):
        for character in (0xD7, 0xF7):
            self.assertEqual(ways_by("form =a =b\n", [97, character, 98]), [1])
            self.assertEqual(ways_by("form =ab\n", [97, character, 98]), [0])

    def test_a_character_for_several_letters(self):
        self.assertEqual(words_of([0xFB03, 0x2116, 0xC6, 0x132]), [("ffinoaeij", 0)])


class Vanishing(unittest.TestCase):
    def test_each_within_before_behind_and_by_itself(self):
        for character in HEXADECIMAL_VANISHING:
            for address, form in (([97, character, 98], "=ab"), ([character, 97, 98], "=ab"),
                                  ([97, 98, character], "=ab"), ([97, 32, character, 32, 98], "=a =b"),
                                  ([97, 32, character, 98], "=a =b"), ([97, character, 32, 98], "=a =b"),
                                  ([97, character, character, 98], "=ab"), ([97, 10, character, 10, 98], "=a / =b")):
                self.assertEqual(ways_by("form " + form + "\n", address), [1], "%x" % character)
            self.assertEqual(words_of([character]), [])
            self.assertEqual(words_of([32, character, 10, character]), [])

    def test_what_parts_between_vanishing_ones(self):
        self.assertEqual(words_of([97, 0x300, 44, 0x300, 98]), [("a", 0), ("b", 0)])
        self.assertEqual(words_of([97, 0x300, 10, 0x300, 98]), [("a", 0), ("b", 1)])


class Lines(unittest.TestCase):
    def test_only_a_line_feed_ends_a_line(self):
        for character in (9, 11, 12, 13, 16, 0x85, 0x2028, 0x2029):
            self.assertEqual(words_of([97, character, 98]), [("a", 0), ("b", 0)])
        self.assertEqual(words_of([97, 10, 98]), [("a", 0), ("b", 1)])

    def test_lines_without_words_are_none(self):
        self.assertEqual(words_of(numbers("\n\n , \na b\n\n-\n\nc\n\n")), [("a", 0), ("b", 0), ("c", 1)])

    def test_no_words(self):
        for address in ("", " ", "\n\n", ",.-", "'"):
            self.assertEqual(words_of(numbers(address)), [])


class Refusals(unittest.TestCase):
    def answer(self, address):
        first, second, third = ask(take("form town\nform =a\n"), ways(address), ways("a"))
        self.assertEqual((first, third), ([0], [2]))
        return second

    def test_512_and_513_numbers(self):
        self.assertEqual(self.answer([32] * 511 + [97]), [2])
        self.assertEqual(self.answer([32] * 512 + [97]), [-2])
        self.assertEqual(self.answer([32] * 2000), [-2])

    def test_numbers_that_are_no_wide_characters(self):
        for number in (0, -1, -97, -2147483648, 55296, 55297, 56000, 57342, 57343, 1114112, 1114113, 2147483647):
            self.assertEqual(self.answer([number]), [-6, 0])
            self.assertEqual(self.answer([97, 10, number, 0]), [-6, 2])
            self.assertEqual(self.answer([97] * 511 + [number]), [-6, 511])
        for number in (1, 55295, 57344, 1114111):
            self.assertEqual(self.answer([97, number]), [2])

    def test_the_order(self):
        self.assertEqual(self.answer([0] * 513), [-2])
        self.assertEqual(self.answer(numbers("a\n" * 9) + [0]), [-6, 18])
        self.assertEqual(self.answer(numbers("a " * 129) + [0]), [-6, 258])
        self.assertEqual(self.answer([97] * 33 + [-5]), [-6, 33])

    def test_8_and_9_lines(self):
        self.assertEqual(self.answer("a\n" * 8), [0])
        self.assertEqual(self.answer("a\n" * 9), [-2])
        self.assertEqual(self.answer("\n \n" + "a\n'\n,\n" * 8 + "\n\n.\n"), [0])
        self.assertEqual(ways_by("drop a\nform town\n", "a\n" * 7 + "b"), [1])
        self.assertEqual(ways_by("drop a\nform town\n", "a\n" * 8 + "b"), [-2])

    def test_128_and_129_words(self):
        self.assertEqual(self.answer("a " * 128), [0])
        self.assertEqual(self.answer("a " * 129), [-2])
        self.assertEqual(ways_by("drop a\nform town\n", "a " * 127 + "b"), [1])
        self.assertEqual(ways_by("drop a\nform town\n", "a " * 128 + "b"), [-2])

    def test_32_and_33_letters(self):
        self.assertEqual(self.answer("z" * 32), [1])
        self.assertEqual(self.answer("z" * 33), [-2])
        self.assertEqual(self.answer("z'" * 32), [1])
        self.assertEqual(self.answer("z " + "z" * 33 + " z"), [-2])
        self.assertEqual(self.answer([0xC6] * 16), [1])
        self.assertEqual(self.answer([0xC6] * 16 + [97]), [-2])
        self.assertEqual(self.answer([0xFB03] * 10 + [97, 97]), [1])
        self.assertEqual(self.answer([0xFB03] * 11), [-2])


if __name__ == "__main__":
    unittest.main()
