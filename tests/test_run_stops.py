"""pr_run: how a run is held to steps and calls, and what's answered of a run that stops."""

import unittest

from tests.helper import (
    NO_STEPS_LEFT, OUTSIDE, PARTED_BY_ZERO, TOO_MANY_CALLS, asked, ended, run, run_in_main, stopped, told,
)


class Steps(unittest.TestCase):
    def assert_steps(self, text, steps, g=()):
        # Just as many are enough, and one fewer is not.
        answer = run(text, g, 400)
        self.assertEqual(answer[2 + 2 * answer[1]], 0, text)
        self.assertEqual(run(text, g, steps), answer, text)
        if steps > 0:
            few = run(text, g, steps - 1)
            self.assertEqual((few[2 + 2 * few[1]], len(few)), (NO_STEPS_LEFT, 3 + 2 * few[1]), text)

    def assert_steps_in_main(self, statements, steps, g=()):
        self.assert_steps("fn main() { " + statements + " }", steps, g)

    def test_none_for_a_main_without_statements(self):
        self.assertEqual(run("fn main() { }", (), 0), ended([], 0))

    def test_0_steps(self):
        texts = ("put 1;", "return 1;", "put get;", "let a = 1;", "if 1 { }", "while 0 { }", "main();", "put 1 / 0;")
        for text in texts:
            self.assertEqual(run_in_main(text, (), 0), stopped([], NO_STEPS_LEFT), text)

    def test_one_for_each_statement(self):
        self.assert_steps_in_main("put 1;", 1)
        self.assert_steps_in_main("return 1;", 1)
        self.assert_steps_in_main("let a = 1;", 1)
        self.assert_steps_in_main("let a = 1; a = 2;", 2)
        self.assert_steps_in_main("let a = 1; a = 2; put a; put a; return a;", 5)

    def test_none_for_what_is_not_begun(self):
        self.assert_steps_in_main("return 1; put 2; put 3;", 1)
        self.assert_steps_in_main("if 0 { put 2; put 3; }", 1)

    def test_one_for_an_if_and_those_of_its_block(self):
        self.assert_steps_in_main("if 1 { }", 1)
        self.assert_steps_in_main("if 0 { } else { }", 1)
        self.assert_steps_in_main("if 1 { put 1; put 2; } else { put 3; }", 3)
        self.assert_steps_in_main("if 0 { put 1; put 2; } else { put 3; }", 2)
        self.assert_steps_in_main("if 1 { if 1 { put 1; } } put 2;", 4)

    def test_one_for_each_time_that_a_whiles_number_is_worked_out(self):
        self.assert_steps_in_main("while 0 { }", 1)
        self.assert_steps_in_main("while 0 { put 1; } put 2;", 2)
        self.assert_steps_in_main("while get { }", 1, [0])
        self.assert_steps_in_main("while get { }", 2, [1, 0])
        self.assert_steps_in_main("while get { }", 4, [1, 1, 1, 0])
        self.assert_steps_in_main("while get { put 1; put 2; }", 7, [1, 1, 0])
        self.assert_steps_in_main("while get { return 1; }", 2, [1])
        self.assert_steps_in_main("while get { while get { } }", 4, [1, 1, 0, 0])

    def test_those_of_calls(self):
        text = "fn f(n) { put n; return n; } fn g() { } "
        self.assert_steps(text + "fn main() { f(1); }", 3)
        self.assert_steps(text + "fn main() { return f(1) + f(2) * f(3); }", 7)
        self.assert_steps(text + "fn main() { return f(f(f(1))); }", 7)
        self.assert_steps(text + "fn main() { g(); g(); }", 2)
        self.assert_steps(text + "fn main() { return g() + g() + g(); }", 1)

    def test_a_step_is_due_ahead_of_what_the_statement_works_out(self):
        self.assertEqual(run_in_main("put 1; put get;", [5], 1), stopped([told(1)], NO_STEPS_LEFT))
        self.assertEqual(run_in_main("put 1; put 1 / 0;", (), 1), stopped([told(1)], NO_STEPS_LEFT))
        self.assertEqual(run_in_main("put 1; put 1 / 0;", (), 2), stopped([told(1)], PARTED_BY_ZERO))
        self.assertEqual(run_in_main("while get { }", [5], 2), stopped([asked(5), asked(5)], NO_STEPS_LEFT))

    def test_a_call_statements_step_comes_before_those_of_what_it_is_called_with(self):
        text = "fn p(a) { put a; } fn main() { p(p(1) + 2); }"
        self.assertEqual(run(text, (), 0), stopped([], NO_STEPS_LEFT))
        self.assertEqual(run(text, (), 1), stopped([], NO_STEPS_LEFT))
        self.assertEqual(run(text, (), 2), stopped([told(1)], NO_STEPS_LEFT))
        self.assertEqual(run(text, (), 3), ended([told(1), told(2)], 0))

    def test_a_run_that_would_never_end(self):
        self.assertEqual(run_in_main("while 1 { }"), stopped([], NO_STEPS_LEFT))
        self.assertEqual(run_in_main("while 1 { put 3; }"), stopped([told(3)] * 200, NO_STEPS_LEFT))
        self.assertEqual(run_in_main("while 1 { put 3; }", (), 399), stopped([told(3)] * 199, NO_STEPS_LEFT))
        self.assertEqual(run_in_main("while get { }", [1]), stopped([asked(1)] * 400, NO_STEPS_LEFT))

    def test_400_statements_and_one_more(self):
        self.assertEqual(run_in_main("put 1; " * 400), ended([told(1)] * 400, 0))
        self.assertEqual(run_in_main("put 1; " * 401), stopped([told(1)] * 400, NO_STEPS_LEFT))

    def test_each_call_of_pr_run_has_its_own_steps(self):
        for number in range(3):
            self.assertEqual(run_in_main("put 1; put 2;", (), 2), ended([told(1), told(2)], 0), number)


class CallsUnderWay(unittest.TestCase):
    # f(n) has n + 1 calls of f under way at its deepest, above main's.
    DOWN = "fn f(n) { if n { return f(n - 1) + 1; } return 0; } "

    def test_64_and_one_more(self):
        self.assertEqual(run(self.DOWN + "fn main() { return f(62); }"), ended([], 62))
        self.assertEqual(run(self.DOWN + "fn main() { return f(63); }"), stopped([], TOO_MANY_CALLS))

    def test_main_is_the_first(self):
        text = "fn main() { put 1; main(); }"
        self.assertEqual(run(text), stopped([told(1)] * 64, TOO_MANY_CALLS))

    def test_what_the_65th_is_called_with_is_worked_out(self):
        text = "fn f(a) { put a; return f(get); } fn main() { return f(0); }"
        record = [told(0)]
        for number in range(1, 63):
            record += [asked(number), told(number)]
        self.assertEqual(run(text, range(1, 100)), stopped(record + [asked(63)], TOO_MANY_CALLS))

    def test_what_the_65th_is_called_with_may_stop_first(self):
        text = "fn f(n) { return f(1 / n * 0 + n - 1); } fn main() { return f(get); }"
        self.assertEqual(run(text, [62]), stopped([asked(62)], PARTED_BY_ZERO))
        self.assertEqual(run(text, [63]), stopped([asked(63)], TOO_MANY_CALLS))

    def test_a_call_within_what_the_65th_is_called_with(self):
        # At the 64th, the inner call is the one that's too many.
        text = "fn p(a) { put a; return a; } fn f(n) { if n { return f(n - 1); } return p(p(1) + 1); } "
        self.assertEqual(run(text + "fn main() { return f(61); }"), ended([told(1), told(2)], 2))
        self.assertEqual(run(text + "fn main() { return f(62); }"), stopped([], TOO_MANY_CALLS))

    def test_of_a_statement_and_of_a_function_without_statements(self):
        text = "fn e() { } fn f(n) { if n { f(n - 1); } else { put 1; e(); put 2; } } "
        self.assertEqual(run(text + "fn main() { f(61); }"), ended([told(1), told(2)], 0))
        self.assertEqual(run(text + "fn main() { f(62); }"), stopped([told(1)], TOO_MANY_CALLS))

    def test_calls_that_have_ended_are_not_under_way(self):
        text = "fn e() { } fn main() { let n = 0; while n < 100 { e(); n = n + 1; } return n; }"
        self.assertEqual(run(text), ended([], 100))
        self.assertEqual(run("fn e() { return 1; } fn main() { return " + "e() + " * 99 + "e(); }"), ended([], 100))
        twice = "fn main() { put f(62); put f(62); return f(62) + f(1); }"
        self.assertEqual(run(self.DOWN + twice), ended([told(62), told(62)], 63))

    def test_steps_before_calls(self):
        # The 64 calls under way have begun 64 statements; with one step fewer, the last isn't begun.
        text = "fn main() { return main(); }"
        self.assertEqual(run(text, (), 64), stopped([], TOO_MANY_CALLS))
        self.assertEqual(run(text, (), 63), stopped([], NO_STEPS_LEFT))


class Record(unittest.TestCase):
    def test_what_was_asked_and_told_before_a_stop_is_answered(self):
        begin = "put get; put 7; "
        record = [asked(4), told(4), told(7)]
        stops = (
            ("put 1 / 0;", PARTED_BY_ZERO),
            ("put 1 % 0;", PARTED_BY_ZERO),
            ("put 999999999999999999 * 10;", OUTSIDE),
            ("let a = 0 - 999999999999999999; put 10 * a;", OUTSIDE),
            ("while 1 { }", NO_STEPS_LEFT),
            ("f();", TOO_MANY_CALLS),
        )
        for text, code in stops:
            answer = run("fn f() { return f(); } fn main() { " + begin + text + " put 8; }", [4])
            self.assertEqual(answer, stopped(record, code), text)

    def test_the_code_stands_alone(self):
        self.assertEqual(run_in_main("return 1 / 0;"), [2, 0, -33])
        self.assertEqual(run_in_main("return 999999999999999999 * 10;"), [2, 0, -34])
        self.assertEqual(run_in_main("return 1;", (), 0), [2, 0, -62])
        self.assertEqual(run_in_main("return main();"), [2, 0, -40])

    def test_numbers_that_look_like_codes_are_told_as_they_are(self):
        self.assertEqual(run_in_main("put -33; return -34;"), [2, 1, 1, -33, 0, -34])
        self.assertEqual(run_in_main("return 0;"), [2, 0, 0, 0])
        self.assertEqual(run_in_main("put get; return get;", [0, -62]), [2, 3, 0, 0, 1, 0, 0, -62, 0, -62])


if __name__ == "__main__":
    unittest.main()
