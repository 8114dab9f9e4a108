"""pr_read: which programs are right."""

import unittest

from smalltongue.desk import pr_read
from tests.helper import MAIN, NOT_RIGHT, in_main, program, read


class Right(unittest.TestCase):
    def assert_right(self, text):
        answer = read(text)
        self.assertEqual(answer[0], 1, (text, answer))

    def assert_not_right(self, text):
        self.assertEqual(read(text), NOT_RIGHT, text)


class FunctionNames(Right):
    def test_no_two_functions_of_one_name(self):
        self.assert_right(MAIN + "fn f() { } fn g() { }")
        self.assert_not_right(MAIN + "fn f() { } fn f() { }")
        self.assert_not_right(MAIN + "fn f() { } fn g() { } fn f(a) { }")
        self.assert_not_right(MAIN + MAIN)
        self.assert_not_right(MAIN + "fn main(a) { }")
        self.assert_not_right("fn main(a) { } " + MAIN)

    def test_main_is_one(self):
        self.assert_not_right("fn f() { }")
        self.assert_not_right("fn mai() { } fn mainn() { } fn main_() { }")
        self.assert_right("fn f() { } fn main() { } fn g() { }")

    def test_main_has_no_parameters(self):
        self.assert_not_right("fn main(a) { }")
        self.assert_not_right("fn f() { } fn main(a, b) { }")

    def test_a_function_and_a_variable_of_one_name(self):
        self.assert_right(MAIN + "fn f(f) { let g = f(f); return g; } fn g() { let main = g(); put main; }")
        self.assert_right(in_main("let main = 1; put main; main(); main = main();"))

    def test_a_functions_name_is_no_variable(self):
        self.assert_not_right(in_main("put main;"))
        self.assert_not_right(in_main("main = 1;"))

    def test_a_variables_name_is_no_function(self):
        self.assert_not_right(in_main("let a = 1; a();"))
        self.assert_not_right(MAIN + "fn f(a) { put a(1); }")


class Parameters(Right):
    def test_no_two_of_one_name(self):
        self.assert_right(MAIN + "fn f(a, b, c, d) { }")
        for wrong in ("a, a", "a, b, a", "a, b, c, a", "b, a, a", "a, b, c, c"):
            self.assert_not_right(MAIN + "fn f(" + wrong + ") { }")

    def test_one_name_in_two_functions(self):
        self.assert_right(MAIN + "fn f(a) { put a; } fn g(a) { put a; }")

    def test_there_in_the_whole_block(self):
        self.assert_right(MAIN + "fn f(a, b, c, d) { put a; if b { while c { d = a; } } put d; }")

    def test_not_there_in_another_function(self):
        self.assert_not_right("fn f(a) { put a; } fn main() { put a; }")
        self.assert_not_right("fn f(a) { put b; } fn g(b) { } fn main() { }")

    def test_not_told_again(self):
        self.assert_not_right(MAIN + "fn f(a) { let a = 1; }")
        self.assert_not_right(MAIN + "fn f(a, b) { if a { let b = 1; } }")


class Lets(Right):
    def test_there_from_the_next_statement_on(self):
        self.assert_right(in_main("let a = 1; put a; a = a + 1; let b = a; if b { put a; }"))
        self.assert_not_right(in_main("put a; let a = 1;"))
        self.assert_not_right(in_main("a = 1; let a = 1;"))

    def test_not_there_in_its_own_let(self):
        self.assert_not_right(in_main("let a = a;"))
        self.assert_not_right(in_main("let a = 1 + (a);"))
        self.assert_not_right(MAIN + "fn f(b) { let a = f(a); }")

    def test_not_there_behind_its_block(self):
        self.assert_right(in_main("if 1 { let a = 1; put a; }"))
        self.assert_not_right(in_main("if 1 { let a = 1; } put a;"))
        self.assert_not_right(in_main("while 1 { let a = 1; } a = 1;"))
        self.assert_not_right(in_main("if 1 { let a = 1; } else { put a; }"))
        self.assert_not_right(in_main("if 1 { } else { let a = 1; } put a;"))
        self.assert_not_right(in_main("if 1 { if 1 { let a = 1; } put a; }"))

    def test_not_there_in_the_number_that_its_while_asks(self):
        self.assert_not_right(in_main("while a { let a = 0; }"))

    def test_not_there_in_another_function(self):
        self.assert_not_right("fn f() { let a = 1; } fn main() { put a; }")
        self.assert_right("fn f() { let a = 1; } fn main() { let a = 1; put a; }")

    def test_not_told_again_while_it_is_there(self):
        self.assert_not_right(in_main("let a = 1; let a = 2;"))
        self.assert_not_right(in_main("let a = 1; if 1 { let a = 2; }"))
        self.assert_not_right(in_main("let a = 1; if 1 { while 1 { let a = 2; } }"))
        self.assert_not_right(in_main("let a = 1; let b = 2; if 1 { } else { let a = 2; }"))

    def test_told_again_in_a_block_apart(self):
        self.assert_right(in_main("if 1 { let a = 1; } else { let a = 2; }"))
        self.assert_right(in_main("if 1 { let a = 1; } if 1 { let a = 2; put a; }"))
        self.assert_right(in_main("while 1 { let a = 1; } let a = 2; put a;"))
        self.assert_right(in_main("if 1 { if 1 { let a = 1; } let a = 2; put a; }"))
        self.assert_not_right(in_main("if 1 { let a = 1; } let a = 2; if 1 { let a = 3; }"))

    def test_what_was_there_ahead_of_a_block_is_there_behind_it(self):
        self.assert_right(in_main("let a = 1; if 1 { let b = a; let c = b; } put a;"))
        self.assert_not_right(in_main("let a = 1; if 1 { let b = a; let c = b; } put b;"))


class HowManyVariables(Right):
    def lets(self, first, behind):
        return "".join("let v%d = 1; " % number for number in range(first, behind))

    def test_32_and_33(self):
        self.assert_right(in_main(self.lets(0, 31)))
        self.assert_right(in_main(self.lets(0, 32)))
        self.assert_not_right(in_main(self.lets(0, 33)))

    def test_parameters_are_counted(self):
        self.assert_right(MAIN + "fn f(a, b, c, d) { " + self.lets(0, 28) + "}")
        self.assert_not_right(MAIN + "fn f(a, b, c, d) { " + self.lets(0, 29) + "}")

    def test_those_of_outer_blocks_are_counted(self):
        self.assert_right(in_main(self.lets(0, 16) + "if 1 { " + self.lets(16, 32) + "}"))
        self.assert_not_right(in_main(self.lets(0, 16) + "if 1 { " + self.lets(16, 33) + "}"))

    def test_those_that_are_no_longer_there_are_not_counted(self):
        inner = "if 1 { " + self.lets(16, 32) + "} else { " + self.lets(16, 32) + "}"
        self.assert_right(in_main(self.lets(0, 16) + inner + self.lets(16, 32)))
        self.assert_not_right(in_main(self.lets(0, 16) + inner + self.lets(16, 33)))

    def test_each_function_has_its_own(self):
        self.assert_right("fn f() { " + self.lets(0, 32) + "} fn main() { " + self.lets(0, 32) + "}")


class Uses(Right):
    PLACES = ("put %s;", "return %s;", "let b = %s;", "let b = 1; b = %s;", "if %s { }", "while %s { }",
              "put -%s;", "put !%s;", "put (%s);", "put 1 + %s;", "put %s - 1;", "put 2 * %s;", "put 2 / %s;",
              "put 2 %% %s;", "put 1 < %s;", "put %s < 1;", "put %s == 1;", "put 1 == %s;", "f(%s);", "put f(%s);",
              "put f(f(%s));", "put f(1 + %s);", "if 1 { put %s; }", "if 1 { } else { put %s; }",
              "while 1 { put %s; }", "f(f(%s));", "return 1; put %s;")

    def test_a_variable_that_is_used_is_there(self):
        for place in self.PLACES:
            statement = place % "a"
            self.assert_not_right("fn main() { " + statement + " } fn f(x) { }")
            self.assert_right("fn main() { let a = 1; " + statement + " } fn f(x) { }")

    def test_a_variable_that_is_set_is_there(self):
        self.assert_not_right(in_main("a = 1;"))
        self.assert_not_right(in_main("if 1 { a = 1; }"))
        self.assert_not_right(in_main("while 0 { a = 1; }"))
        self.assert_not_right(in_main("return 1; a = 1;"))
        self.assert_right(in_main("let a = 1; a = 1; if 1 { a = 2; }"))

    def test_each_of_a_calls_is_there(self):
        text = "fn main() { let a = 1; f(%s, %s, %s); put f(%s, %s, %s); } fn f(x, y, z) { }"
        self.assert_right(text % (("a",) * 6))
        for place in range(6):
            names = ["a"] * 6
            names[place] = "b"
            self.assert_not_right(text % tuple(names))


class Calls(Right):
    def test_a_function_that_is_called_is_there(self):
        for place in Uses.PLACES:
            self.assert_not_right("fn main() { " + place % "g()" + " } fn f(x) { }")
            self.assert_right("fn main() { " + place % "g()" + " } fn f(x) { } fn g() { }")
        self.assert_not_right(in_main("g();"))

    def test_ahead_of_its_text_and_by_itself(self):
        self.assert_right("fn main() { f(); main(); } fn f() { g(); f(); } fn g() { main(); }")

    def test_with_as_many_as_it_has_parameters(self):
        names = ("a", "b", "c", "d")
        for parameters in range(5):
            function = " fn f(" + ", ".join(names[:parameters]) + ") { }"
            for count in range(7):
                call = "f(" + ", ".join(["1"] * count) + ")"
                for statement in (call + ";", "put " + call + ";", "if " + call + " { }"):
                    text = in_main(statement) + function
                    if count == parameters:
                        self.assert_right(text)
                    else:
                        self.assert_not_right(text)

    def test_a_call_within_what_a_call_is_called_with(self):
        function = " fn f(a, b) { }"
        self.assert_right(in_main("put f(f(1, 2), f(3, f(4, 5)));") + function)
        self.assert_right(in_main("f(f(1, 2), f(3, f(4, 5)));") + function)
        self.assert_not_right(in_main("put f(f(1), 2, 3);") + function)
        self.assert_not_right(in_main("put f(f(1, 2, 3), 4);") + function)
        self.assert_not_right(in_main("put f(f(1, 2));") + function)
        self.assert_not_right(in_main("put f(1, g(2));") + function)

    def test_main_is_called_without_any(self):
        self.assert_right(in_main("main(); put main();"))
        self.assert_not_right(in_main("main(1);"))

    def test_a_later_function_is_held_to_the_rules_too(self):
        self.assert_not_right(MAIN + "fn f() { g(); }")
        self.assert_not_right("fn f() { g(); } " + MAIN)


class EachTimeAsTheFirst(unittest.TestCase):
    TEXTS = ("", "?", "fn main() { }", "fn main() { put a; }", "fn main() { let a = 1; put a; } fn f(b) { }",
             "fn f() { } " * 33, ";" * 2049, "#" * 8193, "fn main() { let a = 1; } # a", "fn main() {")

    def test_what_is_handed_in_stays_as_it_was(self):
        for text in self.TEXTS:
            t = list(text.encode("latin-1"))
            pr_read(t)
            self.assertEqual(t, list(text.encode("latin-1")))

    def test_again_it_answers_the_same(self):
        first = [read(text) for text in self.TEXTS]
        again = [read(text) for text in reversed(self.TEXTS)]
        self.assertEqual(first, list(reversed(again)))

    def test_an_answer_that_was_changed_does_not_come_back(self):
        for text in self.TEXTS:
            answer = read(text)
            kept = list(answer)
            answer.append(7)
            self.assertEqual(read(text), kept)

    def test_a_list_of_whole_numbers_is_given_back(self):
        for text in self.TEXTS:
            answer = read(text)
            self.assertIs(type(answer), list)
            self.assertTrue(all(type(number) is int for number in answer))

    def test_every_rule_at_once(self):
        text = """
        # how often a is in n
        fn times(n, a) {
            let count = 0;
            while !(n < a) { n = n - a; count = count + 1; }
            return count;
        }
        fn main() {
            let n = get;
            if n == 0 { put -1; } else { let m = times(n, times(6, 2)); put m; }
            times(1, 1);
            return n % 7 / 2;
        }
        """
        self.assertEqual(read(text), program(94, 2))


if __name__ == "__main__":
    unittest.main()
