"""pr_read: how a text is parted into tokens."""

import unittest

from tests.helper import MAIN, NO_PROGRAM, TOO_MUCH, in_main, program, read, read_in_main


def expr(text):
    # `return` and `;` in main: eight tokens around the expression's own.
    return read_in_main("return " + text + ";")


class BetweenTokens(unittest.TestCase):
    def test_no_bytes(self):
        self.assertEqual(read(""), NO_PROGRAM)

    def test_only_blanks_and_comments(self):
        self.assertEqual(read(" \n # nothing\n"), NO_PROGRAM)
        self.assertEqual(read("#"), NO_PROGRAM)

    def test_nothing_between_tokens(self):
        self.assertEqual(read("fn main(){return 1;}"), program(9, 1))

    def test_spaces_and_newlines_mean_nothing(self):
        self.assertEqual(read("\n\n fn\nmain ( ) {\n return\n1 ; }  \n"), program(9, 1))

    def test_blanks_part_names_and_words(self):
        self.assertEqual(read("fnmain() { }"), NO_PROGRAM)
        self.assertEqual(read("fn\nmain() { }"), program(6, 1))

    def test_a_comment_parts_tokens(self):
        self.assertEqual(read("fn# a\nmain() { }"), program(6, 1))
        self.assertEqual(read("fn ma#\nin() { }"), NO_PROGRAM)

    def test_a_comment_at_the_end(self):
        for end in ("#", "# the end", "# the end\n", "##", "#\n#"):
            self.assertEqual(read("fn main() { }" + end), program(6, 1), end)

    def test_a_comment_ends_at_the_newline_alone(self):
        self.assertEqual(read("# fn main() {\nfn main() { }"), program(6, 1))
        self.assertEqual(read("fn main() { # }"), NO_PROGRAM)
        self.assertEqual(read("# a # b\r fn\nfn main() { }"), program(6, 1))

    def test_any_bytes_may_stand_in_a_comment(self):
        every = "".join(chr(byte) for byte in range(256) if byte != 10)
        self.assertEqual(read("fn main() { } #" + every), program(6, 1))
        self.assertEqual(read("#" + every + "\nfn main() { }"), program(6, 1))

    def test_every_other_byte_is_no_text(self):
        known = " \n#abcdefghijklmnopqrstuvwxyz0123456789(){},;=+-*/%<!"
        for byte in range(256):
            if chr(byte) not in known:
                self.assertEqual(read("fn main() { }" + chr(byte)), NO_PROGRAM, byte)
                # Ahead of the count of tokens, so it's the parting that is refused.
                self.assertEqual(read(";" * 2049 + chr(byte)), NO_PROGRAM, byte)

    def test_every_known_byte_can_be_parted(self):
        for sign in " \n#abcxyz019(){},;=+-*/%<!":
            self.assertEqual(read(";" * 2049 + " " + sign), TOO_MUCH, sign)


class Names(unittest.TestCase):
    def test_letters_digits_and_underscores(self):
        for name in ("a", "z", "a0", "a_", "z9_a", "a__", "abcdefghijklmnop"):
            self.assertEqual(read(MAIN + "fn " + name + "() { }"), program(12, 2), name)

    def test_what_a_name_does_not_begin_with(self):
        for name in ("_", "_a", "A", "0a", "9", "aB", "a.b", "a'"):
            self.assertEqual(read(MAIN + "fn " + name + "() { }"), NO_PROGRAM, name)

    def test_16_and_17_bytes(self):
        for first in ("a", "z"):
            for rest in ("b", "7", "_"):
                self.assertEqual(read(MAIN + "fn " + first + rest * 15 + "() { }"), program(12, 2))
                self.assertEqual(read(MAIN + "fn " + first + rest * 16 + "() { }"), NO_PROGRAM)

    def test_a_run_too_long_is_not_parted_in_two(self):
        self.assertEqual(read(";" * 2049 + "a" * 17), NO_PROGRAM)
        self.assertEqual(read(";" * 2049 + "a" * 16), TOO_MUCH)
        self.assertEqual(read(MAIN + "fn if" + "a" * 15 + "() { }"), NO_PROGRAM)

    def test_names_that_differ_in_one_byte_differ(self):
        for other in ("abcdefghijklmnoq", "bbcdefghijklmnop", "abcdefg_ijklmnop", "abcdefg0ijklmnop"):
            text = MAIN + "fn abcdefghijklmnop() { } fn " + other + "() { }"
            self.assertEqual(read(text), program(18, 3), other)

    def test_words_are_no_names(self):
        for word in ("fn", "let", "if", "else", "while", "return", "put", "get"):
            self.assertEqual(read(MAIN + "fn " + word + "() { }"), NO_PROGRAM, word)
            self.assertEqual(read(MAIN + "fn f(" + word + ") { }"), NO_PROGRAM, word)
            self.assertEqual(read_in_main("let " + word + " = 1;"), NO_PROGRAM, word)

    def test_longer_than_a_word_is_a_name(self):
        for name in ("fn1", "lets", "if_", "elsee", "while0", "return_", "puts", "gets", "f", "le", "number", "rest"):
            self.assertEqual(read_in_main("let " + name + " = 1; put " + name + ";"), program(14, 1), name)


class Numbers(unittest.TestCase):
    def test_18_and_19_digits(self):
        self.assertEqual(expr("9" * 18), program(9, 1))
        self.assertEqual(expr("1" + "0" * 17), program(9, 1))
        self.assertEqual(expr("9" * 19), NO_PROGRAM)
        self.assertEqual(expr("1" + "0" * 18), NO_PROGRAM)

    def test_no_number_begins_with_0_but_0(self):
        self.assertEqual(expr("0"), program(9, 1))
        self.assertEqual(expr("10"), program(9, 1))
        for number in ("007", "00", "01", "0" * 18):
            self.assertEqual(expr(number), NO_PROGRAM, number)

    def test_a_run_that_is_no_number_is_not_parted_in_two(self):
        self.assertEqual(read(";" * 2049 + "007"), NO_PROGRAM)
        self.assertEqual(read(";" * 2049 + "00"), NO_PROGRAM)
        self.assertEqual(read(";" * 2049 + "1" * 19), NO_PROGRAM)
        self.assertEqual(read(";" * 2049 + "1" * 18), TOO_MUCH)
        self.assertEqual(read(";" * 2049 + "0"), TOO_MUCH)

    def test_every_digit(self):
        for digit in "123456789":
            self.assertEqual(expr(digit), program(9, 1))

    def test_a_number_ends_where_its_digits_end(self):
        self.assertEqual(expr("1a"), NO_PROGRAM)
        self.assertEqual(expr("1_0"), NO_PROGRAM)
        self.assertEqual(read(";" * 2049 + "1a"), TOO_MUCH)
        self.assertEqual(read(";" * 2049 + "1" + "a" * 16), TOO_MUCH)


class Signs(unittest.TestCase):
    def test_each_sign_between_two_numbers(self):
        for sign in ("+", "-", "*", "/", "%", "<", "=="):
            self.assertEqual(expr("1" + sign + "2"), program(11, 1), sign)
        for sign in ("=", "!", ",", ";", ")", "}", "(", "{"):
            self.assertEqual(expr("1" + sign + "2"), NO_PROGRAM, sign)

    def test_two_equals_signs_together_and_apart(self):
        self.assertEqual(expr("1==2"), program(11, 1))
        self.assertEqual(expr("1= =2"), NO_PROGRAM)
        self.assertEqual(expr("1=\n=2"), NO_PROGRAM)
        self.assertEqual(expr("1=#\n=2"), NO_PROGRAM)
        self.assertEqual(read_in_main("let a == 1;"), NO_PROGRAM)

    def test_equals_signs_are_taken_by_twos(self):
        # 2,048 tokens are no program; 2,049 are too many.
        self.assertEqual(read("=" * 4096), NO_PROGRAM)
        self.assertEqual(read("=" * 4097), TOO_MUCH)
        self.assertEqual(read("= " * 2049), TOO_MUCH)
        self.assertEqual(read("= " * 2048), NO_PROGRAM)

    def test_an_equals_sign_as_the_last_byte(self):
        self.assertEqual(read("fn main() { let a ="), NO_PROGRAM)
        self.assertEqual(read(";" * 2048 + "="), TOO_MUCH)

    def test_a_minus_1_is_three_tokens(self):
        self.assertEqual(read_in_main("let a = 1; put a-1;"), program(16, 1))
        self.assertEqual(read_in_main("let a = 1; put a - 1;"), program(16, 1))
        self.assertEqual(read_in_main("let a = 1; put a--1;"), program(17, 1))

    def test_no_sign_of_two_bytes_but_one(self):
        for sign in ("<=", "!=", ">=", "&&", "**"):
            self.assertEqual(expr("1" + sign + "2"), NO_PROGRAM, sign)


class HowManyBytes(unittest.TestCase):
    def test_8192_and_8193_bytes(self):
        text = in_main("return 1;")
        self.assertEqual(read(text + " " * (8192 - len(text))), program(9, 1))
        self.assertEqual(read(text + " " * (8193 - len(text))), TOO_MUCH)
        self.assertEqual(read(text + "#" * (8192 - len(text))), program(9, 1))
        self.assertEqual(read(text + "#" * (8193 - len(text))), TOO_MUCH)

    def test_too_many_bytes_are_not_looked_at(self):
        self.assertEqual(read("?" * 8192), NO_PROGRAM)
        self.assertEqual(read("?" * 8193), TOO_MUCH)
        self.assertEqual(read("?" * 8200), TOO_MUCH)


class HowManyTokens(unittest.TestCase):
    def test_2048_and_2049_tokens(self):
        # Nine tokens with the first number, one more for a - before it, two more for each +1.
        self.assertEqual(expr("1" + "+1" * 1019), program(2047, 1))
        self.assertEqual(expr("-1" + "+1" * 1019), program(2048, 1))
        self.assertEqual(expr("1" + "+1" * 1020), TOO_MUCH)

    def test_too_many_tokens_come_ahead_of_no_program(self):
        self.assertEqual(read(";" * 2048), NO_PROGRAM)
        self.assertEqual(read(";" * 2049), TOO_MUCH)
        self.assertEqual(read(";" * 8192), TOO_MUCH)

    def test_no_text_comes_ahead_of_too_many_tokens(self):
        self.assertEqual(read(";" * 8191 + "?"), NO_PROGRAM)
        self.assertEqual(read("?" + ";" * 8191), NO_PROGRAM)


if __name__ == "__main__":
    unittest.main()
