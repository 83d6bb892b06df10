import unittest

from tests.helper import ask, count, numbers, plain, take

RULES = ("shape 9\nshort a b b c\nform town\ndrop d d e\nshape 99\nshape 9\nshort a b\ndrop d\n"
         "form town\nform land =town\nform street\n")


def read_as(rules, word):
    first, second = ask(take(rules), plain(word))
    assert first == [0], first
    return second


def told(word):
    return [1, len(word)] + numbers(word)


class Count(unittest.TestCase):
    def test_each_what(self):
        calls = [take(RULES)] + [count(what) for what in range(5)]
        self.assertEqual(ask(*calls), [[0], [11], [3], [4], [4], [4]])

    def test_each_what_of_single_lines(self):
        for line, counts in (("shape 9\n", [1, 1, 0, 0, 0]), ("short a b\n", [1, 0, 1, 0, 0]),
                             ("drop a\n", [1, 0, 0, 1, 0]), ("form =a =b\n", [1, 0, 0, 0, 1])):
            told_counts = ask(take(line), *[count(what) for what in range(5)])[1:]
            self.assertEqual(told_counts, [[number] for number in counts])

    def test_words_that_stand_several_times(self):
        rules = "short a b b\nshort a b\nshort c a a a\ndrop d d\ndrop d\n"
        self.assertEqual(ask(take(rules), count(2), count(3)), [[0], [6], [3]])

    def test_the_most(self):
        rules = "drop" + " a" * 32 + "\n" + "short" + " a" * 32 + "\n" + "shape 9\n" * 8 + "form =a\n" * 64
        rules += "drop a\n" * (512 - 74)
        calls = [take(rules)] + [count(what) for what in range(5)]
        self.assertEqual(ask(*calls), [[0], [512], [8], [31], [32 + 438], [64]])

    def test_another_what(self):
        for what in (5, 6, 9, 4294967295):
            self.assertEqual(ask(take(RULES), count(what)), [[0], [-1]])


class Plain(unittest.TestCase):
    def test_a_word_as_itself(self):
        self.assertEqual(read_as("form town\n", "abc09z"), told("abc09z"))
        self.assertEqual(read_as("short a b\ndrop c\n", "bb"), told("bb"))

    def test_a_shortened_one(self):
        rules = "short street st str\nshort road rd\n"
        for word, plain_word in (("st", "street"), ("str", "street"), ("rd", "road"), ("s", "s"), ("stre", "stre")):
            self.assertEqual(read_as(rules, word), told(plain_word))

    def test_the_first_short_line_that_has_it(self):
        self.assertEqual(read_as("short x y\nshort saint st\nshort street st\nshort state st\n", "st"), told("saint"))

    def test_what_it_is_read_as_is_not_looked_at_again(self):
        self.assertEqual(read_as("short a b\nshort b c\n", "c"), told("b"))
        self.assertEqual(read_as("short b c\nshort a b\n", "c"), told("b"))
        self.assertEqual(read_as("short b c\ndrop b\n", "c"), told("b"))
        self.assertEqual(read_as("short a b\nshort b a\n", "a"), told("b"))

    def test_the_first_word_of_a_short_line(self):
        self.assertEqual(read_as("short a b\n", "a"), told("a"))
        self.assertEqual(read_as("short a b\nshort c a\n", "a"), told("c"))
        self.assertEqual(read_as("short a a\nshort c a\n", "a"), told("a"))
        self.assertEqual(read_as("short a b a\nshort c a\n", "a"), told("a"))

    def test_a_dropped_one(self):
        self.assertEqual(read_as("drop a b\ndrop c\n", "b"), [0])
        self.assertEqual(read_as("drop a b\ndrop c\n", "c"), [0])
        self.assertEqual(read_as("drop ab\n", "a"), told("a"))

    def test_one_in_both_a_drop_and_a_short_line(self):
        self.assertEqual(read_as("short a b\ndrop b\n", "b"), [0])
        self.assertEqual(read_as("drop b\nshort a b\n", "b"), [0])
        self.assertEqual(read_as("short a b\ndrop a\n", "a"), [0])

    def test_lengths(self):
        self.assertEqual(read_as("drop a\n", "z" * 32), told("z" * 32))
        self.assertEqual(read_as("drop a\n", "z" * 33), [-1])
        self.assertEqual(read_as("drop a\n", "z" * 500), [-1])
        self.assertEqual(read_as("drop a\n", ""), [-1])
        self.assertEqual(read_as("short " + "y" * 32 + " z\n", "z"), told("y" * 32))

    def test_bytes(self):
        for byte in range(256):
            letter = 48 <= byte <= 57 or 97 <= byte <= 122
            self.assertEqual(read_as("drop zz\n", [byte]), [1, 1, byte] if letter else [-1])
            self.assertEqual(read_as("drop zz\n", [97, byte, 98]), [1, 3, 97, byte, 98] if letter else [-1])


if __name__ == "__main__":
    unittest.main()
