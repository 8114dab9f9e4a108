"""pr_run: what statements and calls do."""

import unittest

from tests.helper import MAIN, OUTSIDE, PARTED_BY_ZERO, asked, ended, run, run_in_main, stopped, told


class LetAndSet(unittest.TestCase):
    def test_let_sets_a_variable(self):
        self.assertEqual(run_in_main("let a = 3; return a;"), ended([], 3))
        self.assertEqual(run_in_main("let a = 3; let b = a + 1; return a * 10 + b;"), ended([], 34))

    def test_a_variable_is_set_again(self):
        self.assertEqual(run_in_main("let a = 3; a = 4; return a;"), ended([], 4))
        self.assertEqual(run_in_main("let a = 3; a = a * a + a; return a;"), ended([], 12))

    def test_each_keeps_its_own(self):
        text = "let a = 1; let b = 2; a = b; b = 5; return a * 10 + b;"
        self.assertEqual(run_in_main(text), ended([], 25))

    def test_set_within_a_block_and_used_behind_it(self):
        self.assertEqual(run_in_main("let a = 1; if 1 { a = 2; if 1 { a = a + 5; } } return a;"), ended([], 7))

    def test_told_again_in_a_block_apart(self):
        text = "if 1 { let a = 3; put a; } if 1 { let a = 4; put a; } let a = 5; return a;"
        self.assertEqual(run_in_main(text), ended([told(3), told(4)], 5))

    def test_told_again_in_both_blocks_of_an_if(self):
        text = "let b = 0; if get { let a = 3; b = a; } else { let a = 4; b = a; } return b;"
        self.assertEqual(run_in_main(text, [1]), ended([asked(1)], 3))
        self.assertEqual(run_in_main(text, [0]), ended([asked(0)], 4))

    def test_told_anew_each_time_round_a_loop(self):
        text = "let n = 0; while n < 3 { let a = n * 2; put a; a = 100; n = n + 1; }"
        self.assertEqual(run_in_main(text), ended([told(0), told(2), told(4)], 0))

    def test_33_variables_one_after_another_in_blocks_apart(self):
        text = "".join(["if 1 { let a = %d; put a; } " % number for number in range(33)])
        self.assertEqual(run_in_main(text), ended([told(number) for number in range(33)], 0))

    def test_a_variable_and_a_function_of_one_name(self):
        text = "fn f(f) { return f + 1; } fn main() { let f = 5; f = f(f) * 10; return f(f); }"
        self.assertEqual(run(text), ended([], 61))


class Put(unittest.TestCase):
    def test_in_order(self):
        self.assertEqual(run_in_main("put 1; put -2; put 1 + 2;"), ended([told(1), told(-2), told(3)], 0))

    def test_what_is_put_is_asked_first(self):
        self.assertEqual(run_in_main("put get; put get;", [8]), ended([asked(8), told(8), asked(8), told(8)], 0))

    def test_nothing_put(self):
        self.assertEqual(run_in_main(""), ended([], 0))


class If(unittest.TestCase):
    def test_without_else(self):
        text = "if get { put 1; } put 2;"
        self.assertEqual(run_in_main(text, [1]), ended([asked(1), told(1), told(2)], 0))
        self.assertEqual(run_in_main(text, [0]), ended([asked(0), told(2)], 0))

    def test_with_else(self):
        text = "if get { put 1; } else { put 3; } put 2;"
        self.assertEqual(run_in_main(text, [1]), ended([asked(1), told(1), told(2)], 0))
        self.assertEqual(run_in_main(text, [0]), ended([asked(0), told(3), told(2)], 0))

    def test_any_number_but_0(self):
        for number in (1, 2, -1, 256, 4294967296, 9223372036854775807, -9223372036854775808):
            answer = run_in_main("if get { return 5; } else { return 6; }", [number])
            self.assertEqual(answer, ended([asked(number)], 5), number)

    def test_empty_blocks(self):
        for number in (0, 1):
            for text in ("if get { } put 2;", "if get { } else { } put 2;"):
                self.assertEqual(run_in_main(text, [number]), ended([asked(number), told(2)], 0))
        self.assertEqual(run_in_main("if 0 { put 1; } else { } put 2;"), ended([told(2)], 0))
        self.assertEqual(run_in_main("if 1 { } else { put 1; } put 2;"), ended([told(2)], 0))

    def test_if_in_if(self):
        text = "if get { if get { put 1; } else { put 2; } } else { if get { put 3; } else { put 4; } } put 5;"
        for first, second, number in ((1, 1, 1), (1, 0, 2), (0, 1, 3), (0, 0, 4)):
            record = [asked(first), asked(second), told(number), told(5)]
            self.assertEqual(run_in_main(text, [first, second]), ended(record, 0))

    def test_else_is_of_the_if_that_it_stands_behind(self):
        text = "if 1 { if 0 { put 1; } } else { put 2; } if 0 { if 1 { put 3; } } else { put 4; }"
        self.assertEqual(run_in_main(text), ended([told(4)], 0))

    def test_a_number_that_stops(self):
        self.assertEqual(run_in_main("if 1 / 0 { put 1; } else { put 2; }"), stopped([], PARTED_BY_ZERO))


class While(unittest.TestCase):
    def test_over_and_over(self):
        text = "let n = 3; while n { put n; n = n - 1; } return n + 10;"
        self.assertEqual(run_in_main(text), ended([told(3), told(2), told(1)], 10))

    def test_of_0(self):
        self.assertEqual(run_in_main("while 0 { put 1; } return 2;"), ended([], 2))
        self.assertEqual(run_in_main("let a = 0; while a { a = 1 / 0; } return 2;"), ended([], 2))

    def test_any_number_but_0(self):
        self.assertEqual(run_in_main("let n = -2; while n { put n; n = n + 1; }"), ended([told(-2), told(-1)], 0))

    def test_its_number_is_worked_out_each_time(self):
        record = [asked(5), told(1), asked(6), told(1), asked(0), told(2)]
        self.assertEqual(run_in_main("while get { put 1; } put 2;", [5, 6, 0]), ended(record, 0))

    def test_an_empty_block(self):
        record = [asked(1), asked(1), asked(0), told(2)]
        self.assertEqual(run_in_main("while get { } put 2;", [1, 1, 0]), ended(record, 0))

    def test_while_in_while(self):
        text = "let a = 0; while a < 2 { let b = 0; while b < 2 { put a * 10 + b; b = b + 1; } a = a + 1; }"
        self.assertEqual(run_in_main(text), ended([told(0), told(1), told(10), told(11)], 0))

    def test_if_in_while_in_if(self):
        text = "if 1 { let n = 0; while n < 4 { if n % 2 { put n; } else { put -n; } n = n + 1; } } else { put 99; }"
        self.assertEqual(run_in_main(text), ended([told(0), told(1), told(-2), told(3)], 0))

    def test_two_in_a_row(self):
        text = "let n = 2; while n { n = n - 1; put n; } while n < 2 { n = n + 1; put n; }"
        self.assertEqual(run_in_main(text), ended([told(1), told(0), told(1), told(2)], 0))

    def test_a_number_goes_outside_in_a_loop(self):
        text = "let n = 1; let c = 0; while 1 { put c; c = c + 1; n = n * 2; }"
        # 2 to the power of 62 is there behind 62 times; the 63rd would be outside.
        self.assertEqual(run_in_main(text), stopped([told(number) for number in range(63)], OUTSIDE))


class Return(unittest.TestCase):
    def test_ends_main(self):
        self.assertEqual(run_in_main("return 4; put 1;"), ended([], 4))
        self.assertEqual(run_in_main("return 4; return 5;"), ended([], 4))
        self.assertEqual(run_in_main("return get;", [-3]), ended([asked(-3)], -3))

    def test_out_of_blocks_within_blocks(self):
        text = "while 1 { if 1 { while 1 { if 0 { } else { put 1; return 7; } put 2; } put 3; } put 4; } put 5;"
        self.assertEqual(run_in_main(text), ended([told(1)], 7))

    def test_out_of_a_function_alone(self):
        text = "fn f(a) { while 1 { if a { return a; } return 9; } put 5; } fn main() { put f(3); put f(0); return 1; }"
        self.assertEqual(run(text), ended([told(3), told(9)], 1))

    def test_a_function_that_comes_to_its_end_ends_with_0(self):
        self.assertEqual(run("fn f() { } fn main() { return f() + 5; }"), ended([], 5))
        text = "fn f() { let a = 7; put a; } fn main() { put 3; return f(); }"
        self.assertEqual(run(text), ended([told(3), told(7)], 0))
        self.assertEqual(run("fn f(a) { if a { return 6; } } fn main() { return f(1) * 10 + f(0); }"), ended([], 60))
        self.assertEqual(run_in_main("put 7;"), ended([told(7)], 0))


class Calls(unittest.TestCase):
    def test_what_it_is_called_with(self):
        text = "fn f(a, b, c, d) { return a * 1000 + b * 100 + c * 10 + d; } fn main() { return f(1, 2, 3, 4); }"
        self.assertEqual(run(text), ended([], 1234))
        text = "fn f(b, a) { return b - a; } fn main() { let a = 9; let b = 4; return f(a, b); }"
        self.assertEqual(run(text), ended([], 5))

    def test_without_anything(self):
        self.assertEqual(run("fn f() { return 6; } fn main() { return f() * f(); }"), ended([], 36))

    def test_functions_stand_before_or_behind(self):
        self.assertEqual(run("fn main() { return f(); } fn f() { return 6; }"), ended([], 6))
        self.assertEqual(run("fn f() { return g(); } fn main() { return f(); } fn g() { return 6; }"), ended([], 6))

    def test_main_is_run_wherever_it_stands(self):
        self.assertEqual(run("fn f() { put 1; } fn main() { put 2; } fn g() { put 3; }"), ended([told(2)], 0))

    def test_a_call_that_is_a_statement_forgets_its_number(self):
        text = "fn f(a) { put a; return a; } fn main() { f(1); f(2); return 3; }"
        self.assertEqual(run(text), ended([told(1), told(2)], 3))
        self.assertEqual(run("fn f() { return 8; } fn main() { f(); }"), ended([], 0))
        self.assertEqual(run("fn f() { return 8; } fn g() { f(); } fn main() { return 5 - g(); }"), ended([], 5))

    def test_called_with_is_worked_out_from_left_to_right_before_the_call(self):
        text = "fn f(a, b, c) { put 100; return a - b - c; } fn main() { return f(get, get, get); }"
        self.assertEqual(run(text, [9, 3, 4]), ended([asked(9), asked(3), asked(4), told(100)], 2))
        text = "fn p(a) { put a; return a; } fn f(a, b) { put 9; } fn main() { f(p(1), p(2)); f(p(3) + p(4), p(5)); }"
        record = [told(number) for number in (1, 2, 9, 3, 4, 5, 9)]
        self.assertEqual(run(text), ended(record, 0))

    def test_a_call_within_what_a_call_is_called_with(self):
        text = "fn f(a, b) { put a; return a * 10 + b; } fn main() { return f(f(1, 2), f(f(3, 4), 5)); }"
        self.assertEqual(run(text), ended([told(1), told(3), told(34), told(12)], 465))
        self.assertEqual(run("fn f(a) { return a + 1; } fn main() { return f(f(f(0))); }"), ended([], 3))

    def test_what_waits_to_be_used_outlasts_a_call(self):
        text = "fn f(a) { let b = a * (a + 1); put b; if b { return b - (1 - a); } } "
        text += "fn main() { return 7 - 2 * f(3) * f(1 + f(0)); }"
        self.assertEqual(run(text), ended([told(12), told(0), told(2)], 7 - 2 * 14 * 2))

    def test_variables_are_each_calls_own(self):
        text = "fn f(a) { let b = a; a = 50; b = b + 1; return b; } "
        text += "fn main() { let a = 1; let b = 2; let c = f(a); return a * 100 + b * 10 + c; }"
        self.assertEqual(run(text), ended([], 122))

    def test_variables_are_each_calls_own_within_one_function(self):
        text = "fn f(n) { let m = n * 2; if n { f(n - 1); } put m; put n; } fn main() { f(2); }"
        self.assertEqual(run(text), ended([told(0), told(0), told(2), told(1), told(4), told(2)], 0))

    def test_a_function_calls_itself(self):
        text = "fn fact(n) { if n < 2 { return 1; } return n * fact(n - 1); } fn main() { return fact(20); }"
        self.assertEqual(run(text), ended([], 2432902008176640000))
        self.assertEqual(run(text.replace("20", "21")), stopped([], OUTSIDE))

    def test_two_functions_call_each_other(self):
        text = "fn even(n) { if n == 0 { return 1; } return odd(n - 1); } "
        text += "fn odd(n) { if n == 0 { return 0; } return even(n - 1); } "
        self.assertEqual(run(text + "fn main() { return even(10) * 10 + even(7); }"), ended([], 10))

    def test_main_may_be_called(self):
        text = "fn main() { if get { put 1; return main() + 5; } return 2; }"
        self.assertEqual(run(text, [1, 0]), ended([asked(1), told(1), asked(0)], 7))

    def test_a_tree_of_calls(self):
        text = "fn fib(n) { if n < 2 { return n; } return fib(n - 1) + fib(n - 2); } fn main() { return fib(9); }"
        self.assertEqual(run(text), ended([], 34))

    def test_what_stops_within_a_call_stops_the_run(self):
        text = "fn f() { put 1; put 1 / 0; put 2; } fn main() { put 0; f(); put 3; }"
        self.assertEqual(run(text), stopped([told(0), told(1)], PARTED_BY_ZERO))
        text = "fn f(a) { put 1; } fn main() { f(1 / 0); }"
        self.assertEqual(run(text), stopped([], PARTED_BY_ZERO))

    def test_functions_that_are_not_called_do_nothing(self):
        self.assertEqual(run(MAIN + "fn f() { put 1 / 0; }"), ended([], 0))


if __name__ == "__main__":
    unittest.main()
