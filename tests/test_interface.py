import unittest

from landrules.addresses import answers
from tests.helper import ask, count, part, plain, printed, take, way, ways

TOWN = "form town\n"
STREET = "drop a\nform street number\nform town\n"


class Interface(unittest.TestCase):
    def test_several_calls_in_one_list(self):
        calls = take("short street st\ndrop the\nform street\n") + count(0) + plain("st") + plain("the") + ways("the st")
        self.assertEqual(answers(calls), [1, 0, 1, 3, 8, 1, 6, 115, 116, 114, 101, 101, 116, 1, 0, 1, 1])

    def test_a_fault_is_answered_by_two_numbers(self):
        self.assertEqual(answers([0, 1, 120]), [2, -6, 0])
        self.assertEqual(answers(take(TOWN) + ways([65, 0])), [1, 0, 2, -6, 1])

    def test_other_refusals_are_one_number(self):
        self.assertEqual(answers(take(TOWN) + count(5) + plain("") + ways([65] * 513)), [1, 0, 1, -1, 1, -1, 1, -2])

    def test_what_is_handed_in_stays(self):
        calls = take(STREET) + ways("Long Road 7") + plain("a") + count(9) + take("x")
        before = list(calls)
        answers(calls)
        self.assertEqual(calls, before)

    def test_nothing_is_kept_from_one_time_to_the_next(self):
        calls = take(STREET) + ways("Long Road 7") + plain("a") + count(4)
        first = answers(calls)
        self.assertEqual(answers(calls), first)
        self.assertEqual(answers(count(4)), [1, -5])

    def test_the_list_given_back_is_a_new_one(self):
        first = answers(take(TOWN))
        first.append(7)
        self.assertEqual(answers(take(TOWN)), [1, 0])

    def test_whole_numbers_are_no_truth_values(self):
        told = answers(take(TOWN) + ways("a") + plain("a") + count(1))
        self.assertEqual([number.__class__ for number in told], [int] * len(told))

    def test_four_hundred_calls(self):
        calls = [take(TOWN)] + [count(4)] * 399
        self.assertEqual(ask(*calls), [[0]] + [[1]] * 399)


class NoRules(unittest.TestCase):
    def test_all_calls_but_take(self):
        calls = [count(0), plain("a"), ways("a"), way(0, "a"), part(1, 2, "a"), printed(0, "town a\n")]
        self.assertEqual(ask(*calls), [[-5]] * 6)
        for call in calls:
            self.assertEqual(ask(call, take(TOWN), count(4)), [[-5], [0], [1]])

    def test_before_any_other_refusal(self):
        calls = [count(5), plain(""), ways([0]), ways([65] * 513), ways("a " * 129), way(0, [0]), part(0, 9, [])]
        self.assertEqual(ask(*calls), [[-5]] * 7)

    def test_after_a_refused_take(self):
        self.assertEqual(ask(take("form"), count(0), ways("a")), [[-6, 4], [-5], [-5]])


class Held(unittest.TestCase):
    def test_a_refused_take_leaves_the_rules(self):
        asked = [count(0), count(3), count(4), plain("a"), ways("Long Road 7")]
        told = ask(take(STREET), *asked, take("drop b\nshape 9\nform town\nx"), *asked)
        self.assertEqual(told[1:6], [[3], [1], [2], [0], [2]])
        self.assertEqual(told[6], [-6, 25])
        self.assertEqual(told[7:], told[1:6])

    def test_a_later_take_puts_its_rules_in_the_place(self):
        asked = [count(0), count(1), count(2), count(3), count(4), plain("a"), plain("b")]
        told = ask(take(STREET), take("shape 9\nshort c b b\n"), *asked)
        self.assertEqual(told, [[0], [0], [2], [1], [2], [0], [0], [1, 1, 97], [1, 1, 99]])

    def test_refused_calls_leave_the_rules(self):
        told = ask(take(TOWN), ways([0]), count(7), plain("A"), count(0), ways("a"))
        self.assertEqual(told, [[0], [-6, 0], [-1], [-1], [1], [1]])


if __name__ == "__main__":
    unittest.main()
