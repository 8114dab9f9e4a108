"""pr_read: which rows of tokens are a program."""

import unittest

from tests.helper import MAIN, NO_PROGRAM, NOT_RIGHT, TOO_MUCH, program, read, read_in_main


class Functions(unittest.TestCase):
    def test_one_and_two(self):
        self.assertEqual(read("fn main() { }"), program(6, 1))
        self.assertEqual(read("fn main() { } fn f() { }"), program(12, 2))
        self.assertEqual(read("fn f() { } fn main() { }"), program(12, 2))

    def test_a_function_that_lacks_a_token(self):
        tokens = ["fn", "main", "(", ")", "{", "}"]
        for left_out in range(len(tokens)):
            text = " ".join(tokens[:left_out] + tokens[left_out + 1:])
            self.assertEqual(read(text), NO_PROGRAM, text)

    def test_a_program_that_breaks_off(self):
        tokens = "fn f ( a , b ) { let c = a + ( b ) ; if c { f ( c , 1 ) ; } else { } }".split()
        for length in range(len(tokens)):
            self.assertEqual(read(MAIN + " ".join(tokens[:length])), program(6, 1) if length == 0 else NO_PROGRAM)
        self.assertEqual(read(MAIN + " ".join(tokens)), program(6 + len(tokens), 2))

    def test_anything_behind_the_last_function(self):
        for behind in (";", "}", "1", "main", "put 1;", "{ }"):
            self.assertEqual(read(MAIN + behind), NO_PROGRAM, behind)

    def test_a_function_in_a_function(self):
        self.assertEqual(read_in_main("fn f() { }"), NO_PROGRAM)

    def test_parameters(self):
        self.assertEqual(read(MAIN + "fn f(a) { }"), program(13, 2))
        self.assertEqual(read(MAIN + "fn f(a, b) { }"), program(15, 2))
        for wrong in ("(,)", "(a,)", "(,a)", "(a b)", "(a,,b)", "(1)", "(a", "((a))", "(a;b)"):
            self.assertEqual(read(MAIN + "fn f" + wrong + " { }"), NO_PROGRAM, wrong)

    def test_4_and_5_parameters(self):
        self.assertEqual(read(MAIN + "fn f(a, b, c, d) { }"), program(19, 2))
        self.assertEqual(read(MAIN + "fn f(a, b, c, d, e) { }"), NO_PROGRAM)

    def test_5_parameters_are_no_program_even_where_it_is_not_right(self):
        self.assertEqual(read("fn f(a, a, a, a) { }"), NOT_RIGHT)
        self.assertEqual(read("fn f(a, a, a, a, a) { }"), NO_PROGRAM)

    def test_a_call_with_5_can_be_written_but_is_not_right(self):
        self.assertEqual(read(MAIN + "fn f(a, b, c, d) { f(1, 2, 3, 4); }"), program(30, 2))
        self.assertEqual(read(MAIN + "fn f(a, b, c, d) { f(1, 2, 3, 4, 5); }"), NOT_RIGHT)


class HowManyFunctions(unittest.TestCase):
    def functions(self, count):
        return MAIN + "".join("fn f%d() { } " % number for number in range(count - 1))

    def test_32_and_33_functions(self):
        self.assertEqual(read(self.functions(31)), program(186, 31))
        self.assertEqual(read(self.functions(32)), program(192, 32))
        self.assertEqual(read(self.functions(33)), TOO_MUCH)

    def test_no_program_comes_ahead_of_too_many_functions(self):
        self.assertEqual(read(self.functions(33) + ";"), NO_PROGRAM)
        self.assertEqual(read(self.functions(33) + "fn f(a, b, c, d, e) { }"), NO_PROGRAM)

    def test_too_many_functions_come_ahead_of_not_right(self):
        self.assertEqual(read("fn f() { }" * 32), NOT_RIGHT)
        self.assertEqual(read("fn f() { }" * 33), TOO_MUCH)
        self.assertEqual(read("fn main() { put a; }" * 33), TOO_MUCH)


class Statements(unittest.TestCase):
    def assert_read(self, statements, tokens):
        self.assertEqual(read_in_main(statements), program(6 + tokens, 1), statements)

    def assert_no_program(self, statements):
        self.assertEqual(read_in_main(statements), NO_PROGRAM, statements)

    def test_none(self):
        self.assert_read("", 0)
        self.assert_no_program(";")
        self.assert_no_program("{ }")
        self.assert_no_program("1;")
        self.assert_no_program("get;")
        self.assert_no_program("(main());")

    def test_let(self):
        self.assert_read("let a = 1;", 5)
        for wrong in ("let a;", "let = 1;", "let a 1;", "let a = ;", "let a = 1", "let 1 = 1;", "let a = b = 1;"):
            self.assert_no_program(wrong)

    def test_set(self):
        self.assert_read("let a = 1; a = 2;", 9)
        for wrong in ("a = ;", "a = 1", "a 1;", "a;", "a == 1;", "1 = 1;", "main() = 1;", "a = 1 = 2;", "a = ="):
            self.assert_no_program("let a = 1; " + wrong)

    def test_return(self):
        self.assert_read("return 1;", 3)
        self.assert_read("return 1; return 2;", 6)
        for wrong in ("return;", "return 1", "return return 1;", "return let a = 1;"):
            self.assert_no_program(wrong)

    def test_put(self):
        self.assert_read("put 1;", 3)
        for wrong in ("put;", "put 1", "put 1, 2;", "put put 1;"):
            self.assert_no_program(wrong)

    def test_if(self):
        self.assert_read("if 1 { }", 4)
        self.assert_read("if 1 { } else { }", 7)
        self.assert_read("if 1 { put 1; } else { put 2; put 3; } put 4;", 19)
        for wrong in ("if { }", "if 1;", "if 1 put 1;", "if 1 { } else", "if 1 { } else put 1;", "else { }",
                      "if 1 { } else if 1 { }", "if 1 { } else { } else { }", "if 1 { };", "if 1 else { }"):
            self.assert_no_program(wrong)

    def test_while(self):
        self.assert_read("while 1 { }", 4)
        self.assert_read("while 1 { put 1; put 2; }", 10)
        for wrong in ("while { }", "while 1;", "while 1 put 1;", "while 1 { } else { }", "while 1 { };"):
            self.assert_no_program(wrong)

    def test_a_call(self):
        self.assert_read("main();", 4)
        for wrong in ("main()", "main(;", "main);", "main(,);", "main(1,);", "main(,1);", "main(1 2);",
                      "main(put 1);", "main()();", "main() + 1;", "-main();", "1();", "get();"):
            self.assert_no_program(wrong)


class Expressions(unittest.TestCase):
    def assert_read(self, expr, tokens):
        self.assertEqual(read_in_main("put " + expr + ";"), program(8 + tokens, 1), expr)

    def assert_no_program(self, expr):
        for start in ("put ", "return ", "let a = "):
            self.assertEqual(read_in_main(start + expr + ";"), NO_PROGRAM, expr)
        for start in ("if ", "while "):
            self.assertEqual(read_in_main(start + expr + " { }"), NO_PROGRAM, expr)
        self.assertEqual(read_in_main("main(" + expr + ");"), NO_PROGRAM, expr)

    def test_factors(self):
        for factor, tokens in (("1", 1), ("get", 1), ("-1", 2), ("!1", 2), ("-!-1", 4), ("(1)", 3), ("((1))", 5),
                               ("main()", 3), ("-main()", 4), ("-(1)", 4), ("(-1)", 4), ("!get", 2)):
            self.assert_read(factor, tokens)

    def test_terms_and_sums(self):
        self.assert_read("1*2/3%4", 7)
        self.assert_read("1+2-3+4", 7)
        self.assert_read("1+2*3-4/5", 9)
        self.assert_read("1- -2", 4)
        self.assert_read("1*-2", 4)
        self.assert_read("1+!get", 4)

    def test_one_comparison(self):
        self.assert_read("1<2", 3)
        self.assert_read("1==2", 3)
        self.assert_read("1+2<3*4", 7)
        self.assert_read("-1==!2", 5)
        self.assert_read("main()<main()", 7)

    def test_no_second_comparison_but_in_parentheses(self):
        for first in ("<", "=="):
            for second in ("<", "=="):
                self.assert_no_program("1" + first + "2" + second + "3")
                self.assert_read("(1" + first + "2)" + second + "3", 7)
                self.assert_read("1" + first + "(2" + second + "3)", 7)

    def test_a_comparison_in_each_of_a_calls(self):
        text = MAIN + "fn f(a, b) { f(a<b, a==b); put f(1<2, f(1==2, 3)); }"
        self.assertEqual(read(text), program(43, 2))

    def test_what_is_no_expression(self):
        for wrong in ("+", "+1", "*1", "1+", "1*", "1<", "<1", "==1", "1==", "-", "!", "1 2", "1 get", "get 1",
                      "get()", "1!", "1!2", "!", "()", "(", ")", "(1", "1)", "(1,2)", "(1;2)", "1(2)", "(1)(2)",
                      "main(", "main)", "main(,)", "main(1,)", "main(,1)", "main(1 2)", "main()()", "main()1",
                      "let", "put 1", "return 1", "1+*2", "1**2", "1<<2", "1<=2", "1--", "(1+)", "{1}", "fn"):
            self.assert_no_program(wrong)

    def test_none_where_one_is_asked(self):
        for statement in ("put ;", "return ;", "let a = ;", "if { }", "while { }", "put ();", "main(());"):
            self.assertEqual(read_in_main(statement), NO_PROGRAM, statement)


class HowDeep(unittest.TestCase):
    def assert_deepest(self, nested):
        # `nested` makes statements of main that lie so many deeper than main's block.
        for count in (1, 2, 30, 31):
            answer = read_in_main(nested(count))
            self.assertEqual(answer[0], 1, (nested(count), answer))
        for count in (32, 33, 64):
            self.assertEqual(read_in_main(nested(count)), NO_PROGRAM, nested(count))

    def test_blocks(self):
        self.assert_deepest(lambda count: "if 1 { " * count + "}" * count)
        self.assert_deepest(lambda count: "while 1 { " * count + "}" * count)
        self.assert_deepest(lambda count: "if 1 { } else { " * count + "}" * count)

    def test_what_stands_in_the_deepest_block(self):
        self.assert_deepest(lambda count: "if 1 { " * count + "let a = 1; a = a + get; put a;" + "}" * count)

    def test_parentheses(self):
        self.assert_deepest(lambda count: "put " + "(" * count + "1" + ")" * count + ";")
        self.assert_deepest(lambda count: "let a = " + "(" * count + "1" + ")" * count + ";")
        self.assert_deepest(lambda count: "return 1<2*" + "(" * count + "1" + ")" * count + ";")
        self.assert_deepest(lambda count: "if " + "(" * count + "1" + ")" * count + " { }")
        self.assert_deepest(lambda count: "while " + "(" * count + "1" + ")" * count + " { }")

    def test_minus_and_not(self):
        self.assert_deepest(lambda count: "put " + "-" * count + "1;")
        self.assert_deepest(lambda count: "put " + "!" * count + "get;")
        self.assert_deepest(lambda count: "put " + ("-!" * count)[:count] + "1;")
        self.assert_deepest(lambda count: "put 1 - " + "-" * count + "1;")

    def test_a_minus_between_two_lies_no_deeper(self):
        self.assertEqual(read_in_main("put 1" + "-1" * 64 + ";"), program(137, 1))
        self.assertEqual(read_in_main("put " + "-" * 31 + "1" + "-1" * 64 + ";"), program(168, 1))

    def test_only_the_factor_lies_behind_a_minus(self):
        half = "-" * 31 + "1"
        self.assertEqual(read_in_main("put " + "*".join([half] * 3) + ";"), program(106, 1))
        self.assertEqual(read_in_main("put -1*" + half + ";"), program(43, 1))

    def assert_deepest_calls(self, nested):
        function = " fn f(a) { return a; }"
        for count in (1, 2, 30, 31):
            answer = read("fn main() { " + nested(count) + " }" + function)
            self.assertEqual(answer[0], 1, (nested(count), answer))
        for count in (32, 33, 64):
            self.assertEqual(read("fn main() { " + nested(count) + " }" + function), NO_PROGRAM, nested(count))

    def test_a_calls_parentheses(self):
        self.assert_deepest_calls(lambda count: "put " + "f(" * count + "1" + ")" * count + ";")

    def test_parentheses_of_a_call_that_is_a_statement(self):
        self.assert_deepest_calls(lambda count: "f(" * count + "1" + ")" * count + ";")

    def test_a_calls_parentheses_with_nothing_in_them(self):
        self.assert_deepest_calls(lambda count: "put " + "f(" * (count - 1) + "main()" + ")" * (count - 1) + ";")
        self.assert_deepest_calls(lambda count: "if 1 { " * (count - 1) + "main();" + "}" * (count - 1))
        self.assert_deepest_calls(lambda count: "put " + "-" * (count - 1) + "main();")

    def test_mixed(self):
        signs = ("(", "-", "!", "f(")
        ends = (")", "", "", ")")

        def expr(count):
            begin = "".join(signs[place % 4] for place in range(count))
            return "put " + begin + "1" + "".join(ends[place % 4] for place in reversed(range(count))) + ";"

        def blocks_and_expr(count):
            outer = count // 2
            return "while 1 { " * outer + expr(count - outer) + "}" * outer

        self.assert_deepest_calls(expr)
        self.assert_deepest_calls(blocks_and_expr)

    def test_a_number_worked_out_ahead_of_a_block_lies_outside_it(self):
        for word in ("if", "while"):
            def deep(parentheses):
                number = "(" * parentheses + "1" + ")" * parentheses
                return "if 1 { " * 30 + word + " " + number + " { }" + "}" * 30
            self.assertEqual(read_in_main(deep(1))[0], 1)
            self.assertEqual(read_in_main(deep(2)), NO_PROGRAM)

    def test_what_ends_is_no_longer_counted(self):
        deepest = "if 1 { " * 31 + "}" * 31 + "put " + "(" * 31 + "1" + ")" * 31 + ";"
        self.assertEqual(read_in_main(deepest * 3)[0], 1)
        self.assertEqual(read("fn f() { " + deepest + " } fn main() { " + deepest + " }")[0], 1)

    def test_too_deep_comes_ahead_of_not_right(self):
        self.assertEqual(read("fn f() { put " + "-" * 31 + "a; }"), NOT_RIGHT)
        self.assertEqual(read("fn f() { put " + "-" * 32 + "a; }"), NO_PROGRAM)

    def test_nested_as_deep_as_tokens_allow(self):
        for text in ("(", "-", "!", "f(", "if 1 {"):
            count = 1900 if len(text) == 1 else 600
            start = "" if text == "if 1 {" else "put "
            self.assertEqual(read("fn main() { " + start + text * count), NO_PROGRAM, text)
        self.assertEqual(read_in_main("put " + "(" * 1000 + "1" + ")" * 1000 + ";"), NO_PROGRAM)
        self.assertEqual(read_in_main("put " + "-" * 2000 + "1;"), NO_PROGRAM)


if __name__ == "__main__":
    unittest.main()
