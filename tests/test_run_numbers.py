"""pr_run: what expressions are worked out to."""

import unittest

from tests.helper import (
    LEAST, MOST, OUTSIDE, PARTED_BY_ZERO, asked, ended, run, run_in_main, stopped, told,
)

# Two numbers that are asked for, so that any number of 64 bits may stand on each side.
TWO = "let a = get; let b = get; return a {} b;"


class Numbers(unittest.TestCase):
    def assert_value(self, expr, value):
        self.assertEqual(run_in_main("return " + expr + ";"), ended([], value), expr)

    def assert_two(self, sign, left, right, value):
        answer = run_in_main(TWO.format(sign), [left, right])
        self.assertEqual(answer, ended([asked(left), asked(right)], value), (left, sign, right))

    def assert_two_stop(self, sign, left, right, code):
        answer = run_in_main(TWO.format(sign), [left, right])
        self.assertEqual(answer, stopped([asked(left), asked(right)], code), (left, sign, right))


class Written(Numbers):
    def test_numbers(self):
        for written in ("0", "1", "9", "10", "1234567890", "999999999999999999", "100000000000000000"):
            self.assert_value(written, int(written))

    def test_parentheses(self):
        self.assert_value("(7)", 7)
        self.assert_value("((((7))))", 7)

    def test_a_minus_1(self):
        self.assertEqual(run_in_main("let a = 5; return a-1;"), ended([], 4))


class PlusMinusTimes(Numbers):
    def test_as_they_are(self):
        self.assert_value("2 + 3", 5)
        self.assert_value("2 - 3", -1)
        self.assert_value("2 * 3", 6)
        self.assert_value("0 - 0", 0)
        self.assert_two("*", -4, 5, -20)
        self.assert_two("*", -4, -5, 20)
        self.assert_two("*", 0, -5, 0)

    def test_plus_up_to_the_ends(self):
        self.assert_two("+", MOST - 1, 1, MOST)
        self.assert_two("+", LEAST + 1, -1, LEAST)
        self.assert_two("+", LEAST, MOST, -1)
        self.assert_two("+", MOST, 0, MOST)

    def test_plus_outside(self):
        self.assert_two_stop("+", MOST, 1, OUTSIDE)
        self.assert_two_stop("+", LEAST, -1, OUTSIDE)
        self.assert_two_stop("+", MOST, MOST, OUTSIDE)
        self.assert_two_stop("+", LEAST, LEAST, OUTSIDE)

    def test_minus_up_to_the_ends(self):
        self.assert_two("-", MOST - 1, -1, MOST)
        self.assert_two("-", LEAST + 1, 1, LEAST)
        self.assert_two("-", -1, LEAST, MOST)
        self.assert_two("-", LEAST, LEAST, 0)

    def test_minus_outside(self):
        self.assert_two_stop("-", MOST, -1, OUTSIDE)
        self.assert_two_stop("-", LEAST, 1, OUTSIDE)
        self.assert_two_stop("-", 0, LEAST, OUTSIDE)

    def test_times_up_to_the_ends(self):
        self.assert_two("*", MOST, 1, MOST)
        self.assert_two("*", MOST, -1, -MOST)
        self.assert_two("*", LEAST, 1, LEAST)
        self.assert_two("*", 1 << 62, -2, LEAST)
        self.assert_two("*", -(1 << 32), 1 << 31, LEAST)

    def test_times_outside(self):
        self.assert_two_stop("*", LEAST, -1, OUTSIDE)
        self.assert_two_stop("*", -1, LEAST, OUTSIDE)
        self.assert_two_stop("*", 1 << 32, 1 << 31, OUTSIDE)
        self.assert_two_stop("*", 1 << 32, 1 << 32, OUTSIDE)
        self.assert_two_stop("*", LEAST, LEAST, OUTSIDE)

    def test_outside_within_though_the_whole_would_be_inside(self):
        self.assertEqual(run_in_main("return get + 1 - 1;", [MOST]), stopped([asked(MOST)], OUTSIDE))
        self.assertEqual(run_in_main("return get * 2 * 0;", [MOST]), stopped([asked(MOST)], OUTSIDE))
        self.assertEqual(run_in_main("return (get + 1) == 0;", [MOST]), stopped([asked(MOST)], OUTSIDE))


class Parted(Numbers):
    def test_rounded_towards_0(self):
        self.assert_two("/", 7, 2, 3)
        self.assert_two("/", -7, 2, -3)
        self.assert_two("/", 7, -2, -3)
        self.assert_two("/", -7, -2, 3)
        self.assert_two("/", 1, 2, 0)
        self.assert_two("/", -1, 2, 0)
        self.assert_two("/", 1, -2, 0)
        self.assert_two("/", -1, -2, 0)
        self.assert_two("/", 6, -3, -2)
        self.assert_two("/", 0, -3, 0)

    def test_by_one_and_by_minus_one(self):
        for left in (-2, -1, 0, 1, 2, MOST, -MOST):
            self.assert_two("/", left, 1, left)
            self.assert_two("/", left, -1, -left)
            self.assert_two("%", left, 1, 0)
            self.assert_two("%", left, -1, 0)

    def test_what_is_left_has_the_sign_of_what_is_parted(self):
        self.assert_two("%", 7, 2, 1)
        self.assert_two("%", -7, 2, -1)
        self.assert_two("%", 7, -2, 1)
        self.assert_two("%", -7, -2, -1)
        self.assert_two("%", 1, 5, 1)
        self.assert_two("%", -1, 5, -1)
        self.assert_two("%", -1, -5, -1)
        self.assert_two("%", 6, -3, 0)
        self.assert_two("%", -6, 3, 0)
        self.assert_two("%", 0, -3, 0)

    def test_large_numbers_are_exact(self):
        self.assert_two("/", MOST, 3, 3074457345618258602)
        self.assert_two("/", MOST, -3, -3074457345618258602)
        self.assert_two("%", MOST, 3, 1)
        self.assert_two("/", LEAST, 3, -3074457345618258602)
        self.assert_two("%", LEAST, 3, -2)
        self.assert_two("/", MOST, MOST - 1, 1)
        self.assert_two("%", MOST, MOST - 1, 1)
        self.assert_two("/", MOST, LEAST, 0)
        self.assert_two("%", MOST, LEAST, MOST)
        self.assert_two("/", LEAST, MOST, -1)
        self.assert_two("%", LEAST, MOST, -1)
        self.assert_two("/", LEAST, LEAST, 1)
        self.assert_two("/", LEAST, 1, LEAST)

    def test_by_0(self):
        for left in (7, 0, -7, LEAST, MOST):
            self.assert_two_stop("/", left, 0, PARTED_BY_ZERO)
            self.assert_two_stop("%", left, 0, PARTED_BY_ZERO)

    def test_the_least_by_minus_1(self):
        self.assert_two_stop("/", LEAST, -1, OUTSIDE)
        self.assert_two("%", LEAST, -1, 0)
        self.assert_two("/", LEAST + 1, -1, MOST)
        self.assert_two("%", LEAST + 1, -1, 0)


class TheLeastThatIsMade(unittest.TestCase):
    # The least number can't be written: its digits are too many for a token.
    MADE = "let a = -922337203685477580 * 10 - 8; "

    def test_it_is_made(self):
        self.assertEqual(run_in_main(self.MADE + "return a;"), ended([], LEAST))
        self.assertEqual(run_in_main("return -922337203685477580 * 10 - 9;"), stopped([], OUTSIDE))

    def test_by_minus_1(self):
        self.assertEqual(run_in_main(self.MADE + "return a / -1;"), stopped([], OUTSIDE))
        self.assertEqual(run_in_main(self.MADE + "return a % -1;"), ended([], 0))

    def test_minus_before_it(self):
        self.assertEqual(run_in_main(self.MADE + "return -a;"), stopped([], OUTSIDE))
        self.assertEqual(run_in_main(self.MADE + "return -(a + 1);"), ended([], MOST))


class Compared(Numbers):
    def test_less(self):
        self.assert_two("<", 1, 2, 1)
        self.assert_two("<", 2, 2, 0)
        self.assert_two("<", 3, 2, 0)
        self.assert_two("<", -3, 2, 1)
        self.assert_two("<", -2, -3, 0)
        self.assert_two("<", LEAST, MOST, 1)
        self.assert_two("<", MOST, LEAST, 0)

    def test_equal(self):
        self.assert_two("==", 2, 2, 1)
        self.assert_two("==", 2, 3, 0)
        self.assert_two("==", 2, -2, 0)
        self.assert_two("==", MOST, MOST, 1)
        self.assert_two("==", LEAST, MOST, 0)
        self.assert_two("==", MOST, MOST - 1, 0)

    def test_compared_again(self):
        self.assert_value("(1 < 2) == 1", 1)
        self.assert_value("(3 < 2) < (2 == 2)", 1)


class BeforeAFactor(Numbers):
    def test_minus(self):
        self.assert_value("-5", -5)
        self.assert_value("--5", 5)
        self.assert_value("---5", -5)
        self.assert_value("-0", 0)
        self.assert_value("-(2 - 5)", 3)
        self.assert_value("4 - -5", 9)
        self.assert_value("4 * -5", -20)
        self.assert_value("4--5", 9)

    def test_minus_outside(self):
        self.assertEqual(run_in_main("return -get;", [LEAST]), stopped([asked(LEAST)], OUTSIDE))
        self.assertEqual(run_in_main("return -get;", [MOST]), ended([asked(MOST)], -MOST))
        self.assertEqual(run_in_main("return --get;", [LEAST]), stopped([asked(LEAST)], OUTSIDE))

    def test_not(self):
        self.assert_value("!0", 1)
        self.assert_value("!1", 0)
        self.assert_value("!7", 0)
        self.assert_value("!-7", 0)
        self.assert_value("!!7", 1)
        self.assert_value("!!0", 0)
        self.assert_value("!(1 < 0)", 1)
        self.assertEqual(run_in_main("return !get;", [LEAST]), ended([asked(LEAST)], 0))

    def test_both(self):
        self.assert_value("-!0", -1)
        self.assert_value("!-0", 1)

    def test_they_take_the_factor_alone(self):
        self.assert_value("-2 + 5", 3)
        self.assert_value("!0 + 5", 6)
        self.assert_value("!2 * 5", 0)
        self.assert_value("!1 == 0", 1)
        self.assert_value("-7 / 2", -3)
        self.assert_value("-7 % 2", -1)
        self.assertEqual(run("fn f(a) { return a; } fn main() { return -f(3) - 1; }"), ended([], -4))


class WhichFirst(Numbers):
    def test_times_before_plus(self):
        self.assert_value("2 + 3 * 4", 14)
        self.assert_value("2 * 3 + 4", 10)
        self.assert_value("(2 + 3) * 4", 20)
        self.assert_value("20 - 6 / 2", 17)
        self.assert_value("20 - 7 % 4", 17)

    def test_plus_before_comparing(self):
        self.assert_value("1 + 1 < 3", 1)
        self.assert_value("1 + (1 < 3)", 2)
        self.assert_value("4 == 2 + 2", 1)
        self.assert_value("3 < 1 + 1", 0)

    def test_rows_from_the_left(self):
        self.assert_value("10 - 3 - 2", 5)
        self.assert_value("10 - (3 - 2)", 9)
        self.assert_value("10 - 3 + 2", 9)
        self.assert_value("100 / 10 / 5", 2)
        self.assert_value("100 / (10 / 5)", 50)
        self.assert_value("7 / 2 * 2", 6)
        self.assert_value("7 * 2 / 4", 3)
        self.assert_value("17 % 10 % 4", 3)
        self.assert_value("17 % 10 * 3", 21)
        self.assert_value("2 * 7 % 4", 2)


class LeftBeforeRight(unittest.TestCase):
    def test_gets_are_asked_in_the_order_of_the_text(self):
        gets = [asked(9), asked(2), asked(3)]
        self.assertEqual(run_in_main("return get - get * get;", [9, 2, 3]), ended(gets, 3))
        self.assertEqual(run_in_main("return (get - get) * get;", [9, 2, 3]), ended(gets, 21))
        self.assertEqual(run_in_main("return get < get + get;", [9, 2, 3]), ended(gets, 0))
        self.assertEqual(run_in_main("return get - (get - get);", [9, 2, 3]), ended(gets, 10))

    def test_left_call_before_right_call(self):
        text = "fn f(a) { put a; return a; } fn main() { return "
        puts = [told(1), told(2), told(3)]
        self.assertEqual(run(text + "f(1) - f(2) * f(3); }"), ended(puts, -5))
        self.assertEqual(run(text + "f(1) < f(2) + f(3); }"), ended(puts, 1))
        self.assertEqual(run(text + "f(1) == f(2) - f(3); }"), ended(puts, 0))

    def test_both_sides_are_worked_out_always(self):
        self.assertEqual(run_in_main("return 0 * get;", [5]), ended([asked(5)], 0))
        self.assertEqual(run_in_main("return (1 < 0) * (get / 0);", [5]), stopped([asked(5)], PARTED_BY_ZERO))

    def test_what_is_to_the_right_of_a_stop_is_not_worked_out(self):
        self.assertEqual(run_in_main("return 1 / 0 + get;", [5]), stopped([], PARTED_BY_ZERO))
        self.assertEqual(run_in_main("return 1 % 0 == get;", [5]), stopped([], PARTED_BY_ZERO))
        self.assertEqual(run_in_main("return get + 1 + get;", [MOST]), stopped([asked(MOST)], OUTSIDE))
        self.assertEqual(run_in_main("return get * 2 / get;", [MOST]), stopped([asked(MOST)], OUTSIDE))

    def test_what_is_to_the_left_of_a_stop_is_worked_out(self):
        self.assertEqual(run_in_main("return get + 1 / 0;", [5]), stopped([asked(5)], PARTED_BY_ZERO))
        self.assertEqual(run_in_main("return get / 0;", [5]), stopped([asked(5)], PARTED_BY_ZERO))

    def test_the_first_of_two_stops_is_answered(self):
        large = "999999999999999999 * 999999999999999999"
        self.assertEqual(run_in_main("return " + large + " + 1 / 0;"), stopped([], OUTSIDE))
        self.assertEqual(run_in_main("return 1 / 0 + " + large + ";"), stopped([], PARTED_BY_ZERO))


class Get(unittest.TestCase):
    def test_one_after_another(self):
        answer = run_in_main("put get; put get; return get;", [4, -5, 6])
        self.assertEqual(answer, ended([asked(4), told(4), asked(-5), told(-5), asked(6)], 6))

    def test_over_and_over_from_the_first_on(self):
        answer = run_in_main("return get * 10000 + get * 1000 + get * 100 + get * 10 + get;", [1, 2])
        self.assertEqual(answer, ended([asked(1), asked(2), asked(1), asked(2), asked(1)], 12121))
        self.assertEqual(run_in_main("return get + get + get;", [7]), ended([asked(7)] * 3, 21))

    def test_0_always_where_there_are_none(self):
        self.assertEqual(run_in_main("put get; return get + get;"), ended([asked(0), told(0), asked(0), asked(0)], 0))

    def test_the_ends_of_the_numbers(self):
        answer = run_in_main("put get; return get;", [LEAST, MOST])
        self.assertEqual(answer, ended([asked(LEAST), told(LEAST), asked(MOST)], MOST))

    def test_over_a_loop_and_within_calls(self):
        text = "fn f() { return get; } fn main() { let n = 0; while n < 3 { put f(); n = n + 1; } return get; }"
        record = [asked(1), told(1), asked(2), told(2), asked(1), told(1), asked(2)]
        self.assertEqual(run(text, [1, 2]), ended(record, 2))

    def test_4000_numbers_and_round_again(self):
        row = list(range(1, 4001))
        # 31 gets in a statement, 131 times, and one more: 62 more than the row has.
        text = "let n = 0; while n < 131 { n = n + 1; let s = " + " + ".join(["get"] * 31) + "; } return get;"
        asked_for = [row[place % 4000] for place in range(131 * 31 + 1)]
        answer = run_in_main(text, row)
        self.assertEqual(answer, ended([asked(number) for number in asked_for], asked_for[-1]))
        self.assertEqual(answer[-1], 62)


if __name__ == "__main__":
    unittest.main()
