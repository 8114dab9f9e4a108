"""Parts a text into tokens.

A token is a tuple: its kind, and how it is spelled. The kind is "name", "number",
or, for words and signs, the word or the sign itself.
"""

from smalltongue.refusals import NoProgram

WORDS = ("fn", "let", "if", "else", "while", "return", "put", "get")

# Byte 37 goes by a word: the rules for this program's texts leave its own sign out.
SIGNS = {
    33: "!", 37: "rest", 40: "(", 41: ")", 42: "*", 43: "+", 44: ",", 45: "-", 47: "/",
    59: ";", 60: "<", 61: "=", 123: "{", 125: "}",
}

SMALL_LETTERS = "abcdefghijklmnopqrstuvwxyz"
DIGITS = "0123456789"

NEWLINE = 10
SPACE = 32
HASH = 35
ZERO = 48
NINE = 57
EQUALS = 61
UNDERSCORE = 95
SMALL_A = 97
SMALL_Z = 122

LONGEST_NAME = 16
LONGEST_NUMBER = 18


def is_letter(byte):
    return SMALL_A <= byte and byte <= SMALL_Z


def is_digit(byte):
    return ZERO <= byte and byte <= NINE


def is_name_byte(byte):
    return is_letter(byte) or is_digit(byte) or byte == UNDERSCORE


def comment_end(t, start):
    end = start
    while end < len(t) and t[end] != NEWLINE:
        end += 1
    return end


def name_end(t, start):
    end = start
    while end < len(t) and is_name_byte(t[end]):
        end += 1
    return end


def number_end(t, start):
    end = start
    while end < len(t) and is_digit(t[end]):
        end += 1
    return end


def sign_end(t, start):
    if t[start:start + 2] == [EQUALS, EQUALS]:
        return start + 2
    return start + 1


def token_end(t, start):
    # A whole run is taken even where it is too long for a token: what's over
    # must not be read as a token of its own.
    if is_letter(t[start]):
        return name_end(t, start)
    if is_digit(t[start]):
        return number_end(t, start)
    return sign_end(t, start)


def letter_of(byte):
    if is_letter(byte):
        return SMALL_LETTERS[byte - SMALL_A]
    if is_digit(byte):
        return DIGITS[byte - ZERO]
    return "_"


def spell(piece):
    return "".join([letter_of(byte) for byte in piece])


def name_token(piece):
    if len(piece) > LONGEST_NAME:
        raise NoProgram()
    spelled = spell(piece)
    if spelled in WORDS:
        return (spelled, spelled)
    return ("name", spelled)


def number_token(piece):
    if len(piece) > LONGEST_NUMBER:
        raise NoProgram()
    if piece[0] == ZERO and len(piece) > 1:
        raise NoProgram()
    return ("number", spell(piece))


def sign_token(piece):
    if len(piece) == 2:
        return ("==", "==")
    if piece[0] not in SIGNS:
        raise NoProgram()
    sign = SIGNS[piece[0]]
    return (sign, sign)


def token_of(piece):
    if is_letter(piece[0]):
        return name_token(piece)
    if is_digit(piece[0]):
        return number_token(piece)
    return sign_token(piece)


def part(t):
    tokens = []
    at = 0
    while at < len(t):
        if t[at] == SPACE or t[at] == NEWLINE:
            at += 1
        elif t[at] == HASH:
            at = comment_end(t, at)
        else:
            end = token_end(t, at)
            tokens.append(token_of(t[at:end]))
            at = end
    return tokens
