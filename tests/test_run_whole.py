"""pr_run: texts that are refused, what holds over all runs, large programs, and what is handed in."""

import re
import sys
import unittest

from smalltongue.desk import pr_read, pr_run
from tests.helper import (
    MAIN, NO_PROGRAM, NO_STEPS_LEFT, NOT_RIGHT, OUTSIDE, TOO_MANY_CALLS, TOO_MUCH,
    asked, bytes_of, ended, in_main, read, run, run_in_main, stopped, told,
)

PRIMES = """
# The first primes, as many as are asked for.
fn prime(n) {
    let d = 2;
    while d * d < n + 1 {
        if n % d == 0 { return 0; }
        d = d + 1;
    }
    return 1;
}
fn main() {
    let left = get;
    let n = 2;
    while 0 < left {
        if prime(n) { put n; left = left - 1; }
        n = n + 1;
    }
    return n;
} # the end"""

REVERSED = "fn rest(n) { if n { let a = get; rest(n - 1); put a; } } fn main() { rest(get); return get; }"

STOPPING = "fn main() { let a = 1; while 1 { put a; a = a * get; if a == 0 { return 1 / a; } } }"

CLIMBING = "fn f(n) { put n; if n < get { f(n + 1); } return n * 2; } fn main() { return f(0) + f(100); }"

PROGRAMS = (
    (PRIMES, [8]), (REVERSED, [3, 7, 8, 9]), (STOPPING, [3, 5]), (STOPPING, [2, 2, 0]), (STOPPING, []),
    (CLIMBING, [50]), (CLIMBING, [1000]), (CLIMBING, []),
)


def rows_of(sign, factor):
    # As many of it as 2,048 tokens hold.
    return in_main("return " + factor + (" " + sign + " " + factor) * 1019 + ";")


class Refused(unittest.TestCase):
    def assert_refused(self, text, answer):
        self.assertEqual(read(text), answer)
        for steps in (0, 400):
            for g in ((), (1, 2, 3)):
                self.assertEqual(run(text, g, steps), answer)

    def test_too_many_bytes(self):
        text = in_main("put get; return 5;")
        self.assertEqual(run(text.ljust(8192), [3]), ended([asked(3), told(3)], 5))
        self.assert_refused(text.ljust(8193), TOO_MUCH)
        self.assert_refused("?" * 8200, TOO_MUCH)

    def test_no_tokens(self):
        for text in ("", "?", in_main("put 007;"), in_main("let a_name_of_17_long = 1;"), in_main("put 1;") + "$"):
            self.assert_refused(text, NO_PROGRAM)
        self.assertEqual(run_in_main("let a_name_of_16_big = 1; return a_name_of_16_big;"), ended([], 1))

    def test_too_many_tokens(self):
        self.assert_refused(in_main("put 1; " * 681), TOO_MUCH)
        self.assertEqual(run_in_main("put 1; " * 680, (), 3), stopped([told(1)] * 3, NO_STEPS_LEFT))

    def test_no_program(self):
        for text in ("put 1;", "fn main() { put 1; put 2 }", "fn main() { put 1; ", "fn main() { put 1; } }"):
            self.assert_refused(text, NO_PROGRAM)
        self.assert_refused(in_main("put 1; let a = = 2;"), NO_PROGRAM)
        self.assert_refused(in_main("put 1; put 2 = = 2;"), NO_PROGRAM)
        self.assert_refused(in_main("put get; put " + "(" * 32 + "1" + ")" * 32 + ";"), NO_PROGRAM)

    def test_too_many_functions(self):
        functions = "".join(["fn f%d() { } " % number for number in range(32)])
        self.assert_refused(in_main("put get;") + functions, TOO_MUCH)

    def test_not_right(self):
        wrong = (
            in_main("put get; return a;"),
            in_main("put get; if 0 { a = 1; }"),
            in_main("put get; f();"),
            in_main("put get; main(1);"),
            in_main("put get; let a = 1; let a = 2;"),
            "fn main(a) { put get; }",
            "fn f() { put get; }",
            MAIN + in_main("put get;"),
            in_main("put get;") + "fn f() { return b; }",
            in_main("put get;") + "fn f(a, a) { }",
        )
        for text in wrong:
            self.assert_refused(text, NOT_RIGHT)


class WhatHolds(unittest.TestCase):
    def test_ordinary_programs(self):
        primes = [2, 3, 5, 7, 11, 13, 17, 19]
        self.assertEqual(run(PRIMES, [8]), ended([asked(8)] + [told(number) for number in primes], 20))
        record = [asked(3), asked(7), asked(8), asked(9), told(9), told(8), told(7), asked(3)]
        self.assertEqual(run(REVERSED, [3, 7, 8, 9]), ended(record, 3))

    def test_a_runs_beginning_is_the_same_with_more_steps(self):
        for text, g in PROGRAMS:
            whole = run(text, g, 400)
            record = whole[2:2 + 2 * whole[1]]
            for steps in range(400):
                answer = run(text, g, steps)
                behind = 2 + 2 * answer[1]
                self.assertEqual(answer[2:behind], record[:2 * answer[1]], (text, steps))
                if answer != whole:
                    self.assertEqual(answer[behind:], [NO_STEPS_LEFT], (text, steps))

    def test_once_it_ends_more_steps_change_nothing(self):
        for text, g in PROGRAMS:
            answers = [run(text, g, steps) for steps in range(401)]
            first = answers.index(answers[400])
            if answers[400][2 + 2 * answers[400][1]] != NO_STEPS_LEFT:
                self.assertEqual(answers[first:], [answers[400]] * (401 - first), text)

    def test_spaces_newlines_and_comments_mean_nothing(self):
        for text, g in PROGRAMS:
            answer = run(text, g)
            bare = re.sub("#[^\n]*", "", text)
            self.assertEqual(run(bare, g), answer)
            self.assertEqual(run(bare.replace(" ", "\n\n  "), g), answer)
            self.assertEqual(run(bare.replace(" ", "# put 1; }\n#\n"), g), answer)
            self.assertEqual(run(re.sub("([(){};,<+*])", " \\1#\n", bare), g), answer)
            self.assertEqual(run(re.sub(" *([(){};,<+*]|==) *", "\\1", bare), g), answer)
            self.assertEqual(run("#\n" + text + "# put 9;", g), answer)

    def test_two_equals_apart(self):
        self.assertEqual(run_in_main("let a=1==1; return a;"), ended([], 1))
        self.assertEqual(run_in_main("let a=1; return a==2;"), ended([], 0))
        self.assertEqual(run_in_main("let a=1; return a= =2;"), NO_PROGRAM)

    def test_a_comment_at_the_end(self):
        self.assertEqual(run(in_main("return 3;") + "# return 4;"), ended([], 3))
        self.assertEqual(run(in_main("return 3; # return 4; }\n")), ended([], 3))


class Large(unittest.TestCase):
    def test_long_rows(self):
        self.assertEqual(run(rows_of("+", "1")), ended([], 1020))
        self.assertEqual(run(rows_of("-", "1")), ended([], -1018))
        self.assertEqual(run(rows_of("*", "1")), ended([], 1))
        self.assertEqual(run(rows_of("/", "1")), ended([], 1))
        self.assertEqual(run(rows_of("%", "5")), ended([], 0))
        self.assertEqual(run(rows_of("*", "2")), stopped([], OUTSIDE))
        self.assertEqual(run(rows_of("+", "get"), [1, 2]), ended([asked(1), asked(2)] * 510, 1530))

    def test_a_long_row_over_and_over(self):
        text = in_main("let n = 0; while n < 132 { n = n + 1; let s = " + "get + " * 900 + "1; } return n;")
        answer = run(text, [1])
        self.assertEqual((answer[:2], answer[-2:]), ([2, 132 * 900], [0, 132]))

    def test_32_functions(self):
        functions = "".join(["fn f%d() { return f%d() + 1; } " % (number, number + 1) for number in range(30)])
        text = functions + "fn f30() { return get; } fn main() { return f0(); }"
        self.assertEqual(run(text, [7]), ended([asked(7)], 37))

    def test_deep_expressions(self):
        self.assertEqual(run_in_main("return " + "(" * 31 + "get" + ")" * 31 + ";", [4]), ended([asked(4)], 4))
        self.assertEqual(run_in_main("return " + "-" * 31 + "get;", [4]), ended([asked(4)], -4))
        self.assertEqual(run_in_main("return " + "!" * 31 + "get;", [4]), ended([asked(4)], 0))
        self.assertEqual(run_in_main("return " + "1 + 2 * (" * 31 + "1" + ")" * 31 + ";"), ended([], 2 ** 32 - 1))
        text = "fn f(a) { return a + 1; } fn main() { return " + "f(" * 31 + "0" + ")" * 31 + "; }"
        self.assertEqual(run(text), ended([], 31))

    def test_deep_blocks(self):
        self.assertEqual(run_in_main("if 1 { " * 31 + "put 1; return 5;" + " }" * 31), ended([told(1)], 5))
        self.assertEqual(run_in_main("while 1 { " * 31 + "put 1; return 5;" + " }" * 31), ended([told(1)], 5))
        text = "if 0 { } else { " * 31 + "put 1;" + " }" * 31 + " return 6;"
        self.assertEqual(run_in_main(text), ended([told(1)], 6))

    def test_deep_within_deep_calls(self):
        inner = "1 < 2 + 3 * (" * 30 + "f(n - 1)" + ")" * 30
        text = "fn f(n) { if n == 0 { return 5; } return " + inner + "; } fn main() { return f(get); }"
        self.assertEqual(run(text, [62]), ended([asked(62)], 1))
        self.assertEqual(run(text, [63]), stopped([asked(63)], TOO_MANY_CALLS))
        blocks = "fn f(n) { " + "if n { " * 4 + "return f(" + "(" * 26 + "n - 1" + ")" * 26 + "); " + "} " * 4 + "} "
        self.assertEqual(run(blocks + "fn main() { return f(62); }"), ended([], 0))
        self.assertEqual(run(blocks + "fn main() { return f(63); }"), stopped([], TOO_MANY_CALLS))

    def test_all_within_few_of_pythons_calls(self):
        # Far below a thousand, so that whoever calls may be deep in calls already.
        before = sys.getrecursionlimit()
        depth = 0
        frame = sys._getframe()
        while frame is not None:
            depth += 1
            frame = frame.f_back
        sys.setrecursionlimit(depth + 250)
        try:
            self.test_long_rows()
            self.test_deep_expressions()
            self.test_deep_blocks()
            self.test_deep_within_deep_calls()
        finally:
            sys.setrecursionlimit(before)


class HandedIn(unittest.TestCase):
    TEXTS = (PRIMES, REVERSED, STOPPING, in_main("put get; return a;"), in_main("put 1"), "?", "x" * 8193)

    def test_what_is_handed_in_is_not_changed(self):
        for text in self.TEXTS:
            t = bytes_of(text)
            g = [3, 4, 5]
            pr_run(300, t, g)
            self.assertEqual((t, g), (bytes_of(text), [3, 4, 5]))
            pr_read(t)
            self.assertEqual(t, bytes_of(text))

    def test_a_second_call_answers_as_if_for_the_first_time(self):
        for text in self.TEXTS:
            t = bytes_of(text)
            g = [3, 4, 5]
            first = pr_run(300, t, g)
            kept = list(first)
            pr_run(7, bytes_of(REVERSED), [1, 9])
            second = pr_run(300, t, g)
            self.assertEqual(second, kept)
            second.append(99)
            self.assertEqual(first, kept)
            self.assertEqual(pr_run(300, t, g), kept)

    def test_the_answer_is_a_list_of_its_own(self):
        g = [3]
        answer = pr_run(9, bytes_of(in_main("return get;")), g)
        answer.clear()
        self.assertEqual(g, [3])

    def test_all_are_whole_numbers(self):
        texts = self.TEXTS + (
            in_main("put 1 < 2; put 2 < 1; put 1 == 1; put 1 == 2; put !0; put !1; return 1 < 2;"),
            in_main("put 7 / 2; put 7 % 2; put -7 / 2; return !5;"),
            in_main("return 5 / 0;"),
        )
        for text in texts:
            answer = run(text, [3, 4, 5])
            self.assertEqual({type(number) for number in answer}, {int}, text)
            self.assertEqual(type(answer), list)

    def test_g_is_read_again_each_time(self):
        t = bytes_of(in_main("return get;"))
        for number in (5, 6, -7):
            self.assertEqual(pr_run(400, t, [number, 1]), ended([asked(number)], number))

    def test_by_the_names_of_the_interface(self):
        t = bytes_of(in_main("put get; return 2;"))
        self.assertEqual(pr_run(steps=5, t=t, g=[4]), [2, 2, 0, 4, 1, 4, 0, 2])
        self.assertEqual(pr_run(1, t, [4]), [2, 2, 0, 4, 1, 4, -62])
        self.assertEqual(pr_read(t=t), [1, 12, 1])


if __name__ == "__main__":
    unittest.main()
