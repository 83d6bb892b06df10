import random
import unittest

from landrules.addresses import answers
from tests.helper import ask, count, part, plain, printed, take, way, ways

TOWN = "form town\n"
STREET = "drop a\nform street number\nform town\n"

GREATEST = 18446744073709551615
GREATEST_FORM = 4294967295

ALL = "shape 9999aa\nshort street st\ndrop the\nform street number, town\nform code? town / land?\n"

# Calls by ALL, each with its answer.
CALLS = (
    (count(0), [5]), (count(2), [1]), (count(5), [-1]),
    (plain("st"), [1, 6, 115, 116, 114, 101, 101, 116]), (plain("the"), [0]), (plain("A"), [-1]),
    (ways("the st 7\nb"), [2]), (ways([97, 0]), [-6, 1]), (ways([97] * 513), [-2]), (ways("a\n" * 9), [-2]),
    (way(0, "the st 7\nb"), [3, 2, 1, 1, 3, 2, 1, 5, 3, 1]), (way(1, "the st 7\nb"), [2, 5, 1, 2, 8, 3, 1]),
    (way(2, "the st 7\nb"), [-4]), (way(GREATEST, ""), [-4]), (way(0, [0]), [-6, 0]), (way(0, [32] * 513), [-2]),
    (way(0, "z" * 33), [-2]),
    (part(0, 2, "the st 7\nb"), [6, 115, 116, 114, 101, 101, 116]), (part(0, 3, "the st 7\nb"), [1, 55]),
    (part(1, 5, "the st 7\nb"), [8, 115, 116, 114, 101, 101, 116, 32, 55]), (part(1, 6, "the st 7\nb"), [-3]),
    (part(2, 5, "the st 7\nb"), [-4]), (part(GREATEST, GREATEST_FORM, ""), [-1]), (part(0, 9, [-1]), [-6, 0]),
    (part(0, 9, "a " * 129), [-2]),
    (printed(0, "town b\nnumber 7\nstreet st\n"), [7, 115, 116, 32, 55, 44, 32, 98]),
    (printed(1, "town b\nland c\n"), [3, 98, 10, 99]), (printed(1, "town b\ncode 1\n"), [-3]),
    (printed(0, ""), [-3]), (printed(2, ""), [-4]), (printed(GREATEST_FORM, "town b\n"), [-4]),
    (printed(0, "town"), [-6, 4]), (printed(GREATEST_FORM, "x"), [-6, 0]),
)


def one_behind_another(pairs):
    return [number for call, answer in pairs for number in call]


def told_by(pairs):
    return [number for call, answer in pairs for number in [len(answer)] + answer]


class Interface(unittest.TestCase):
    def test_several_calls_in_one_list(self):
        calls = take("short street st\ndrop the\nform street\n") + count(0) + plain("st") + plain("the") + ways("the st")
        self.assertEqual(answers(calls), [1, 0, 1, 3, 8, 1, 6, 115, 116, 114, 101, 101, 116, 1, 0, 1, 1])

    def test_a_fault_is_answered_by_two_numbers(self):
        self.assertEqual(answers([0, 1, 120]), [2, -6, 0])
        self.assertEqual(answers(take(TOWN) + ways([65, 0])), [1, 0, 2, -6, 1])

    def test_other_refusals_are_one_number(self):
        self.assertEqual(answers(take(TOWN) + count(5) + plain("") + ways([65] * 513)), [1, 0, 1, -1, 1, -1, 1, -2])

    def test_what_is_handed_in_stays(self):
        calls = take(STREET) + ways("Long Road 7") + plain("a") + count(9) + take("x")
        before = list(calls)
        answers(calls)
        self.assertEqual(calls, before)

    def test_nothing_is_kept_from_one_time_to_the_next(self):
        calls = take(STREET) + ways("Long Road 7") + plain("a") + count(4)
        first = answers(calls)
        self.assertEqual(answers(calls), first)
        self.assertEqual(answers(count(4)), [1, -5])

    def test_the_list_given_back_is_a_new_one(self):
        first = answers(take(TOWN))
        first.append(7)
        self.assertEqual(answers(take(TOWN)), [1, 0])

    def test_whole_numbers_are_no_truth_values(self):
        told = answers(take(TOWN) + ways("a") + plain("a") + count(1))
        self.assertEqual([number.__class__ for number in told], [int] * len(told))

    def test_all_seven_calls_in_any_order(self):
        chance = random.Random(7)
        for time in range(30):
            pairs = list(CALLS) * 2
            chance.shuffle(pairs)
            cut = chance.randrange(len(pairs))
            taking = [(take(ALL), [0])]
            before = [(call, [-5]) for call, answer in pairs[:cut]]
            calls = one_behind_another(before + taking + pairs[cut:])
            handed_in = list(calls)
            self.assertEqual(answers(calls), told_by(before + taking + pairs[cut:]))
            self.assertEqual(calls, handed_in)

    def test_each_of_two_calls_behind_one_another(self):
        for first in CALLS:
            for second in CALLS:
                pairs = [(take(ALL), [0]), first, second]
                self.assertEqual(answers(one_behind_another(pairs)), told_by(pairs))

    def test_the_lengths_of_answers(self):
        calls = take("form town\n") + way(0, "a b") + part(0, 5, "a b") + printed(0, "town c\n") + way(1, "a")
        self.assertEqual(answers(calls), [1, 0, 4, 1, 5, 0, 2, 4, 3, 97, 32, 98, 2, 1, 99, 1, -4])

    def test_empty_rows(self):
        calls = take(ALL) + plain("") + ways("") + way(0, "") + part(0, 5, "") + printed(0, "") + take("")
        self.assertEqual(answers(calls), [1, 0, 1, -1, 1, 0, 1, -4, 1, -4, 1, -3, 2, -6, 0])

    def test_numbers_of_all_calls_are_no_truth_values(self):
        told = answers(take(ALL) + one_behind_another(CALLS))
        self.assertEqual({number.__class__ for number in told}, {int})

    def test_four_hundred_calls(self):
        calls = [take(TOWN)] + [count(4)] * 399
        self.assertEqual(ask(*calls), [[0]] + [[1]] * 399)


class NoRules(unittest.TestCase):
    def test_all_calls_but_take(self):
        calls = [count(0), plain("a"), ways("a"), way(0, "a"), part(1, 2, "a"), printed(0, "town a\n")]
        self.assertEqual(ask(*calls), [[-5]] * 6)
        for call in calls:
            self.assertEqual(ask(call, take(TOWN), count(4)), [[-5], [0], [1]])

    def test_before_any_other_refusal(self):
        calls = [count(5), plain(""), ways([0]), ways([65] * 513), ways("a " * 129), way(0, [0]), part(0, 9, [])]
        self.assertEqual(ask(*calls), [[-5]] * 7)
        self.assertEqual(ask(*[call for call, answer in CALLS]), [[-5]] * len(CALLS))

    def test_after_a_refused_take(self):
        self.assertEqual(ask(take("form"), count(0), ways("a")), [[-6, 4], [-5], [-5]])
        told = ask(take("form"), way(0, "a"), part(0, 5, "a"), printed(0, "town a\n"))
        self.assertEqual(told, [[-6, 4], [-5], [-5], [-5]])


class Held(unittest.TestCase):
    def test_a_refused_take_leaves_the_rules(self):
        asked = [count(0), count(3), count(4), plain("a"), ways("Long Road 7")]
        told = ask(take(STREET), *asked, take("drop b\nshape 9\nform town\nx"), *asked)
        self.assertEqual(told[1:6], [[3], [1], [2], [0], [2]])
        self.assertEqual(told[6], [-6, 25])
        self.assertEqual(told[7:], told[1:6])

    def test_a_later_take_puts_its_rules_in_the_place(self):
        asked = [count(0), count(1), count(2), count(3), count(4), plain("a"), plain("b")]
        told = ask(take(STREET), take("shape 9\nshort c b b\n"), *asked)
        self.assertEqual(told, [[0], [0], [2], [1], [2], [0], [0], [1, 1, 97], [1, 1, 99]])

    def test_refused_calls_leave_the_rules(self):
        told = ask(take(TOWN), ways([0]), count(7), plain("A"), count(0), ways("a"))
        self.assertEqual(told, [[0], [-6, 0], [-1], [-1], [1], [1]])

    def test_no_call_but_take_changes_the_object(self):
        asked = [call for call, answer in CALLS]
        expected = [answer for call, answer in CALLS]
        for call, answer in CALLS:
            told = ask(take(ALL), call, *asked, call)
            self.assertEqual(told, [[0], answer] + expected + [answer])

    def test_a_later_take_counts_for_way_part_and_print(self):
        asked = [way(0, "a"), part(0, 5, "a"), printed(0, "town a\n")]
        told = ask(take(TOWN), *asked, take("form street\n"), *asked, take("x"), *asked, take(TOWN), *asked)
        first = [[1, 5, 0, 1], [1, 97], [1, 97]]
        second = [[1, 2, 0, 1], [-3], [-3]]
        self.assertEqual(told, [[0]] + first + [[0]] + second + [[-6, 0]] + second + [[0]] + first)


if __name__ == "__main__":
    unittest.main()
