"""The call tokens: how many tokens, and of each its kind, place and bytes; or where the first is that can't be."""

import unittest

from madeimage.language import read, tokens
from tests.helper import (NAME, NUMBER, SIGN, STRING, WORD, TokensCase, as_bytes, listed, read_one, tokens_of)

WORDS = """let fn if else while for in to break continue return throw try catch use as give and or not true false
nothing host task yield channel send receive join wait len""".split()
SIGNS = "( ) { } [ ] , ; : . = == != < <= > >= + - * / %".split()
LETTERS = "abcdefghijklmnopqrstuvwxyzABCDEFGHIJKLMNOPQRSTUVWXYZ"


class NumberByNumber(unittest.TestCase):
    """Whole answers, written down as numbers."""

    maxDiff = None

    def test_no_token(self):
        self.assertEqual(tokens([]), [0])
        self.assertEqual(tokens([32]), [0])
        self.assertEqual(tokens([9, 13, 10, 32, 10]), [0])
        self.assertEqual(tokens([35]), [0])
        self.assertEqual(tokens([35, 97]), [0])
        self.assertEqual(tokens([32, 35, 34, 10, 9, 35, 35, 13, 64, 10]), [0])

    def test_one_of_each_kind(self):
        self.assertEqual(tokens([97]), [1, 0, 1, 1, 1, 97])
        self.assertEqual(tokens([105, 102]), [1, 1, 1, 1, 2, 105, 102])
        self.assertEqual(tokens([52, 50]), [1, 2, 1, 1, 1, 42])
        self.assertEqual(tokens([34, 97, 34]), [1, 3, 1, 1, 1, 97])
        self.assertEqual(tokens([34, 34]), [1, 3, 1, 1, 0])
        self.assertEqual(tokens([37]), [1, 4, 1, 1, 1, 37])
        self.assertEqual(tokens([33, 61]), [1, 4, 1, 1, 2, 33, 61])

    def test_a_stat(self):
        expected = [5, 1, 1, 1, 3, 108, 101, 116, 0, 1, 5, 2, 97, 98, 4, 1, 8, 1, 61, 2, 1, 10, 1, 1, 4, 1, 11, 1, 59]
        self.assertEqual(tokens_of("let ab = 1;"), expected)

    def test_several_lines(self):
        text = 'fn f(a_1){# "(\n\treturn"\\x00b\\""!=0xff%a_1;\r\n\n}#'
        expected = [14]
        expected += [1, 1, 1, 2, 102, 110]
        expected += [0, 1, 4, 1, 102]
        expected += [4, 1, 5, 1, 40]
        expected += [0, 1, 6, 3, 97, 95, 49]
        expected += [4, 1, 9, 1, 41]
        expected += [4, 1, 10, 1, 123]
        expected += [1, 2, 2, 6, 114, 101, 116, 117, 114, 110]
        expected += [3, 2, 8, 3, 0, 98, 34]
        expected += [4, 2, 17, 2, 33, 61]
        expected += [2, 2, 19, 1, 255]
        expected += [4, 2, 23, 1, 37]
        expected += [0, 2, 24, 3, 97, 95, 49]
        expected += [4, 2, 27, 1, 59]
        expected += [4, 4, 1, 1, 125]
        self.assertEqual(tokens_of(text), expected)

    def test_wrong(self):
        self.assertEqual(tokens([64]), [-1, 1, 1])
        self.assertEqual(tokens([97, 10, 32, 33, 97]), [-1, 2, 2])

    def test_too_long(self):
        self.assertEqual(tokens([32] * 65537), [-8])


class Ordinary(TokensCase):
    def test_every_word(self):
        text = ("let fn if else while for in to\nbreak continue return throw try catch\nuse as give and or not true false\n"
                "nothing host task yield channel\nsend receive join wait len")
        self.check_listed(
            text,
            (WORD, 1, 1, "let"), (WORD, 1, 5, "fn"), (WORD, 1, 8, "if"), (WORD, 1, 11, "else"), (WORD, 1, 16, "while"),
            (WORD, 1, 22, "for"), (WORD, 1, 26, "in"), (WORD, 1, 29, "to"), (WORD, 2, 1, "break"), (WORD, 2, 7, "continue"),
            (WORD, 2, 16, "return"), (WORD, 2, 23, "throw"), (WORD, 2, 29, "try"), (WORD, 2, 33, "catch"),
            (WORD, 3, 1, "use"), (WORD, 3, 5, "as"), (WORD, 3, 8, "give"), (WORD, 3, 13, "and"), (WORD, 3, 17, "or"),
            (WORD, 3, 20, "not"), (WORD, 3, 24, "true"), (WORD, 3, 29, "false"), (WORD, 4, 1, "nothing"),
            (WORD, 4, 9, "host"), (WORD, 4, 14, "task"), (WORD, 4, 19, "yield"), (WORD, 4, 25, "channel"),
            (WORD, 5, 1, "send"), (WORD, 5, 6, "receive"), (WORD, 5, 14, "join"), (WORD, 5, 19, "wait"), (WORD, 5, 24, "len"))

    def test_every_sign_with_blanks(self):
        self.check_listed(
            "( ) { }\t[ ]\r, ; : .\n= == != < <= > >=\n\n + - * / %",
            (SIGN, 1, 1, "("), (SIGN, 1, 3, ")"), (SIGN, 1, 5, "{"), (SIGN, 1, 7, "}"), (SIGN, 1, 9, "["), (SIGN, 1, 11, "]"),
            (SIGN, 1, 13, ","), (SIGN, 1, 15, ";"), (SIGN, 1, 17, ":"), (SIGN, 1, 19, "."), (SIGN, 2, 1, "="),
            (SIGN, 2, 3, "=="), (SIGN, 2, 6, "!="), (SIGN, 2, 9, "<"), (SIGN, 2, 11, "<="), (SIGN, 2, 14, ">"),
            (SIGN, 2, 16, ">="), (SIGN, 4, 2, "+"), (SIGN, 4, 4, "-"), (SIGN, 4, 6, "*"), (SIGN, 4, 8, "/"), (SIGN, 4, 10, "%"))

    def test_every_sign_without_a_blank(self):
        self.check_listed(
            "(){}[],;:.==!=<=>=<>=+-*/%=",
            (SIGN, 1, 1, "("), (SIGN, 1, 2, ")"), (SIGN, 1, 3, "{"), (SIGN, 1, 4, "}"), (SIGN, 1, 5, "["), (SIGN, 1, 6, "]"),
            (SIGN, 1, 7, ","), (SIGN, 1, 8, ";"), (SIGN, 1, 9, ":"), (SIGN, 1, 10, "."), (SIGN, 1, 11, "=="),
            (SIGN, 1, 13, "!="), (SIGN, 1, 15, "<="), (SIGN, 1, 17, ">="), (SIGN, 1, 19, "<"), (SIGN, 1, 20, ">="),
            (SIGN, 1, 22, "+"), (SIGN, 1, 23, "-"), (SIGN, 1, 24, "*"), (SIGN, 1, 25, "/"), (SIGN, 1, 26, "%"),
            (SIGN, 1, 27, "="))

    def test_each_alone(self):
        for word in WORDS:
            self.check_one(word, WORD, word)
        for sign in SIGNS:
            self.check_one(sign, SIGN, sign)
        for name in ("a", "Z", "_", "__9", "a1_B", "e", "rem", "name", "end", "x41"):
            self.check_one(name, NAME, name)

    def test_a_program(self):
        text = ('use "io" as io; # what is drawn\n'
                "let t={a:1,[0x0A]:\"x\\ty\"};\n"
                "\tif not t.a>=-2 and true{io(t[1]%3);}\r\n"
                "send(c,nothing)")
        self.check_listed(
            text,
            (WORD, 1, 1, "use"), (STRING, 1, 5, "io"), (WORD, 1, 10, "as"), (NAME, 1, 13, "io"), (SIGN, 1, 15, ";"),
            (WORD, 2, 1, "let"), (NAME, 2, 5, "t"), (SIGN, 2, 6, "="), (SIGN, 2, 7, "{"), (NAME, 2, 8, "a"), (SIGN, 2, 9, ":"),
            (NUMBER, 2, 10, 1), (SIGN, 2, 11, ","), (SIGN, 2, 12, "["), (NUMBER, 2, 13, 10), (SIGN, 2, 17, "]"),
            (SIGN, 2, 18, ":"), (STRING, 2, 19, "x\ty"), (SIGN, 2, 25, "}"), (SIGN, 2, 26, ";"),
            (WORD, 3, 2, "if"), (WORD, 3, 5, "not"), (NAME, 3, 9, "t"), (SIGN, 3, 10, "."), (NAME, 3, 11, "a"),
            (SIGN, 3, 12, ">="), (SIGN, 3, 14, "-"), (NUMBER, 3, 15, 2), (WORD, 3, 17, "and"), (WORD, 3, 21, "true"),
            (SIGN, 3, 25, "{"), (NAME, 3, 26, "io"), (SIGN, 3, 28, "("), (NAME, 3, 29, "t"), (SIGN, 3, 30, "["),
            (NUMBER, 3, 31, 1), (SIGN, 3, 32, "]"), (SIGN, 3, 33, "%"), (NUMBER, 3, 34, 3), (SIGN, 3, 35, ")"),
            (SIGN, 3, 36, ";"), (SIGN, 3, 37, "}"),
            (WORD, 4, 1, "send"), (SIGN, 4, 5, "("), (NAME, 4, 6, "c"), (SIGN, 4, 7, ","), (WORD, 4, 8, "nothing"),
            (SIGN, 4, 15, ")"))

    def test_what_is_no_program_is_cut_too(self):
        self.check_listed(")let let", (SIGN, 1, 1, ")"), (WORD, 1, 2, "let"), (WORD, 1, 6, "let"))
        self.assertEqual(tokens_of("(" * 60), listed(*[(SIGN, 1, column, "(") for column in range(1, 61)]))


class Blanks(TokensCase):
    def test_each_blank_parts_tokens(self):
        for blank in " \t\r":
            self.check_listed("a" + blank + "b", (NAME, 1, 1, "a"), (NAME, 1, 3, "b"))
            self.check_listed("1" + blank + "2", (NUMBER, 1, 1, 1), (NUMBER, 1, 3, 2))
            self.check_listed("=" + blank + "=", (SIGN, 1, 1, "="), (SIGN, 1, 3, "="))
        self.check_listed("a\nb", (NAME, 1, 1, "a"), (NAME, 2, 1, "b"))
        self.check_listed("=\n=", (SIGN, 1, 1, "="), (SIGN, 2, 1, "="))

    def test_only_a_line_feed_ends_a_line(self):
        self.check_listed("\r\ra\r\nb\n\rc\n\n\nd", (NAME, 1, 3, "a"), (NAME, 2, 1, "b"), (NAME, 3, 2, "c"), (NAME, 6, 1, "d"))

    def test_a_tab_is_one_column(self):
        self.check_listed("\t\ta\t b", (NAME, 1, 3, "a"), (NAME, 1, 6, "b"))

    def test_no_blank_is_needed(self):
        self.check_listed('1"a"b"c"2', (NUMBER, 1, 1, 1), (STRING, 1, 2, "a"), (NAME, 1, 5, "b"), (STRING, 1, 6, "c"),
                          (NUMBER, 1, 9, 2))
        self.check_listed('"a""b"', (STRING, 1, 1, "a"), (STRING, 1, 4, "b"))
        self.check_listed("1.5", (NUMBER, 1, 1, 1), (SIGN, 1, 2, "."), (NUMBER, 1, 3, 5))
        self.check_listed("a-1", (NAME, 1, 1, "a"), (SIGN, 1, 2, "-"), (NUMBER, 1, 3, 1))
        self.check_listed("-0x1", (SIGN, 1, 1, "-"), (NUMBER, 1, 2, 1))
        self.check_listed('return"x"', (WORD, 1, 1, "return"), (STRING, 1, 7, "x"))

    def test_remarks(self):
        self.check_listed("a#b c\nd", (NAME, 1, 1, "a"), (NAME, 2, 1, "d"))
        self.check_listed("a #", (NAME, 1, 1, "a"))
        self.check_listed("1#", (NUMBER, 1, 1, 1))
        self.check_listed("#\n#\n a", (NAME, 3, 2, "a"))
        self.check_listed('"#"#"', (STRING, 1, 1, "#"))
        self.check_listed("=#\n=", (SIGN, 1, 1, "="), (SIGN, 2, 1, "="))
        self.check_listed("# a\rb\nc", (NAME, 2, 1, "c"))

    def test_a_remark_may_hold_any_byte(self):
        every = bytes(byte for byte in range(256) if byte != 10)
        self.assertEqual(tokens_of(b"#" + every), [0])
        self.assertEqual(tokens_of(b"#" + every + b"\na"), [1, 0, 2, 1, 1, 97])


class Names(TokensCase):
    def test_each_byte(self):
        for letter in LETTERS + "_":
            self.check_listed(letter, (NAME, 1, 1, letter))
            self.check_listed("q" + letter + "q", (NAME, 1, 1, "q" + letter + "q"))
        for digit in "0123456789":
            self.check_listed("q" + digit, (NAME, 1, 1, "q" + digit))
            self.check_listed("_" + digit + "_", (NAME, 1, 1, "_" + digit + "_"))

    def test_bytes_around_the_letters_end_a_name(self):
        for sign in "/:[{":
            self.check_listed("a" + sign, (NAME, 1, 1, "a"), (SIGN, 1, 2, sign))
        for sign in "@`^":
            self.assertEqual(tokens_of("a" + sign), [-1, 1, 2])
        self.assertEqual(tokens([97, 195, 164]), [-1, 1, 2])

    def test_32_and_33_bytes(self):
        self.check_one("a" * 32, NAME, "a" * 32)
        self.check_one("_" + "9" * 31, NAME, "_" + "9" * 31)
        self.check_bad("a" * 33)
        self.check_bad("_" + "9" * 32)
        self.check_bad("nothing" + "_" * 26)
        self.check_bad("Z" * 1000)

    def test_a_word_with_one_byte_more_or_less(self):
        for word in WORDS:
            for more in "aZ_0":
                self.check_one(word + more, NAME, word + more)
            self.check_one("_" + word, NAME, "_" + word)
            self.check_one(word[:-1], NAME, word[:-1])

    def test_words_are_small(self):
        for word in WORDS:
            self.check_one(word.upper(), NAME, word.upper())
            self.check_one(word[0].upper() + word[1:], NAME, word[0].upper() + word[1:])

    def test_words_joined(self):
        self.check_listed("letfn let_fn elseif", (NAME, 1, 1, "letfn"), (NAME, 1, 7, "let_fn"), (NAME, 1, 14, "elseif"))


class Numbers(TokensCase):
    def test_digits(self):
        for digit in range(10):
            self.check_one(str(digit), NUMBER, digit)
        self.check_one("1234567890", NUMBER, 1234567890)
        self.check_one("9876543210123456789"[1:], NUMBER, 876543210123456789)

    def test_zeros_ahead(self):
        self.check_one("007", NUMBER, 7)
        self.check_one("0" * 300, NUMBER, 0)
        self.check_one("0" * 300 + "12", NUMBER, 12)
        self.check_one("0" * 300 + "9223372036854775807", NUMBER, 9223372036854775807)
        self.check_bad("0" * 300 + "9223372036854775808")

    def test_the_greatest(self):
        self.check_one("9223372036854775806", NUMBER, 9223372036854775806)
        self.check_one("9223372036854775807", NUMBER, 9223372036854775807)
        self.check_bad("9223372036854775808")
        self.check_bad("9223372036854775810")
        self.check_bad("10000000000000000000")
        self.check_bad("18446744073709551617")
        self.check_bad("1" + "0" * 400)
        self.assertEqual(tokens_of("-9223372036854775808"), [-1, 1, 2])

    def test_hexadecimal(self):
        for worth, digit in enumerate("0123456789abcdef"):
            self.check_one("0x" + digit, NUMBER, worth)
            self.check_one("0x" + digit.upper() + "0", NUMBER, 16 * worth)
        self.check_one("0xaBcDeF", NUMBER, 11259375)

    def test_hexadecimal_with_0_1_16_and_17_digits(self):
        self.check_bad("0x")
        self.check_one("0x1", NUMBER, 1)
        self.check_one("0x0000000000000000", NUMBER, 0)
        self.check_one("0x0123456789abcdef", NUMBER, 81985529216486895)
        self.check_bad("0x00000000000000000")
        self.check_bad("0x0123456789abcdef0")
        self.check_bad("0x" + "f" * 400)

    def test_hexadecimal_with_a_sign(self):
        self.check_one("0x7fffffffffffffff", NUMBER, 9223372036854775807)
        self.check_one("0x8000000000000000", NUMBER, -9223372036854775808)
        self.check_one("0x8000000000000001", NUMBER, -9223372036854775807)
        self.check_one("0xffffffffffffffff", NUMBER, -1)
        self.check_one("0xFFFFFFFFFFFFFFFE", NUMBER, -2)
        self.check_one("0xfffffffffffffff", NUMBER, 1152921504606846975)

    def test_a_letter_a_digit_or_underscore_right_behind(self):
        for letter in LETTERS + "_":
            self.check_bad("1" + letter)
            self.check_bad("9223372036854775807" + letter)
            self.check_bad("0x0123456789abcdef" + letter)
        for letter in "ghijklmnopqrstuvwxyzGHIJKLMNOPQRSTUVWXYZ_":
            self.check_bad("0x" + letter)
            self.check_bad("0x1" + letter)
        for digit in "0123456789":
            self.check_bad("0x0123456789abcdef" + digit)

    def test_no_other_forms(self):
        for text in ("0X1", "00x1", "1x1", "0b1", "0o7", "1_000", "1e5", "0x1x1", "0xx1", "1or 2", "1if"):
            self.check_bad(text)

    def test_what_may_stand_right_behind(self):
        for sign in SIGNS:
            self.check_listed("12" + sign, (NUMBER, 1, 1, 12), (SIGN, 1, 3, sign))
            self.check_listed("0xC" + sign, (NUMBER, 1, 1, 12), (SIGN, 1, 4, sign))
        self.check_listed('12""', (NUMBER, 1, 1, 12), (STRING, 1, 3, ""))
        self.assertEqual(tokens([49, 195, 164]), [-1, 1, 2])
        self.assertEqual(tokens_of("0x1@"), [-1, 1, 4])


class Strings(TokensCase):
    def test_plain(self):
        self.check_one('""', STRING, "")
        self.check_one('"a b"', STRING, "a b")
        self.check_one('"let # 1 ; \'"', STRING, "let # 1 ; '")
        every = "".join(chr(byte) for byte in range(32, 127) if chr(byte) not in '"\\')
        self.check_one('"' + every + '"', STRING, every)

    def test_escapes(self):
        self.check_one('"\\n"', STRING, "\n")
        self.check_one('"\\t"', STRING, "\t")
        self.check_one('"\\\\"', STRING, "\\")
        self.check_one('"\\""', STRING, '"')
        self.check_one('"a\\nb\\tc\\\\d\\"e\\x41f"', STRING, 'a\nb\tc\\d"eAf')
        self.check_one('"\\\\n\\\\x41"', STRING, "\\n\\x41")
        self.check_one('"\\x411"', STRING, "A1")
        self.check_one('"\\xfF\\xFf\\x00"', STRING, "\xff\xff\x00")

    def test_every_byte_by_two_digits(self):
        for byte in range(256):
            self.assertEqual(tokens_of(f'"\\x{byte:02x}"'), [1, 3, 1, 1, 1, byte])
            self.assertEqual(tokens_of(f'"\\x{byte:02X}"'), [1, 3, 1, 1, 1, byte])

    def test_1024_and_1025_bytes(self):
        self.check_one('"' + "a" * 1023 + '"', STRING, "a" * 1023)
        self.check_one('"' + "a" * 1024 + '"', STRING, "a" * 1024)
        self.check_bad('"' + "a" * 1025 + '"')
        self.check_bad('"' + "a" * 3000 + '"')

    def test_bytes_that_it_stands_for_are_counted(self):
        for escape, stands_for in (("\\x41", "A"), ("\\n", "\n"), ("\\t", "\t"), ("\\\\", "\\"), ('\\"', '"')):
            self.check_one('"' + escape * 1024 + '"', STRING, stands_for * 1024)
            self.check_one('"' + escape + "a" * 1022 + escape + '"', STRING, stands_for + "a" * 1022 + stands_for)
            self.check_bad('"' + escape * 1025 + '"')
            self.check_bad('"' + "a" * 1024 + escape + '"')
            self.check_bad('"' + escape + "a" * 1024 + '"')

    def test_columns_behind_a_string_count_what_is_written(self):
        self.check_listed('"\\x41\\n" a', (STRING, 1, 1, "A\n"), (NAME, 1, 10, "a"))
        self.check_listed('"\\\\";', (STRING, 1, 1, "\\"), (SIGN, 1, 5, ";"))

    def test_without_an_end(self):
        for text in ('"', '"abc', '"abc\\"', "\"abc'", '"abc\\x41'):
            self.assertEqual(tokens_of(text), [-1, 1, 1])
            self.assertEqual(tokens_of("a = " + text), [-1, 1, 5])
            self.assertEqual(tokens_of("a\n\n  " + text), [-1, 3, 3])
        self.assertEqual(tokens_of('"a" "'), [-1, 1, 5])
        self.assertEqual(tokens_of('""""a"'), [-1, 1, 6])

    def test_bytes_that_can_not_be(self):
        for byte in list(range(32)) + list(range(127, 256)):
            self.check_bad(b'"' + bytes([byte]) + b'"')
            self.check_bad(b'"ab' + bytes([byte]) + b'c"')

    def test_escapes_that_can_not_be(self):
        for byte in range(256):
            if byte not in (110, 116, 92, 34, 120):
                self.check_bad(b'"ab\\' + bytes([byte]) + b'41"')

    def test_digits_behind_x_that_can_not_be(self):
        for escape in ("\\x", "\\x4", "\\xg1", "\\x1g", "\\x 1", "\\x1 ", "\\x-1", "\\x\\x41", "\\x4\\x41"):
            self.check_bad('"' + escape + '"')
            self.check_bad('"ab' + escape + '"')
        for digit in "/:@G`g":
            self.check_bad('"\\x' + digit + '0"')
            self.check_bad('"\\x0' + digit + '"')

    def test_cut_off_at_the_texts_end(self):
        for text in ('"\\', '"\\n', '"\\x', '"\\x4', '"\\x41', '"ab\\'):
            self.assertEqual(tokens_of("a\n " + text), [-1, 2, 2])


class Signs(TokensCase):
    def test_the_longest(self):
        for text, cut in (("===", "== ="), ("====", "== =="), ("=====", "== == ="), ("<==", "<= ="), (">==", ">= ="), ("!==", "!= ="),
                          ("=!=", "= !="), ("=<", "= <"), ("=>", "= >"), ("<>", "< >"), ("<<=", "< <="), (">>", "> >"),
                          ("--", "- -"), ("+=", "+ ="), ("%=", "% ="), (":=", ": ="), ("//", "/ /"), ("<=>=", "<= >=")):
            rows, column = [], 1
            for sign in cut.split():
                rows.append((SIGN, 1, column, sign))
                column += len(sign)
            self.check_listed(text, *rows)

    def test_a_lone_exclamation_mark(self):
        for behind in ("", " ", "!", " =", "a", "1", "\n=", "<=", "#="):
            self.assertEqual(tokens_of("!" + behind), [-1, 1, 1], behind)
            self.assertEqual(tokens_of("let a = !" + behind), [-1, 1, 9], behind)
            self.assertEqual(tokens_of("a;\n\tb !" + behind), [-1, 2, 4], behind)
        self.assertEqual(tokens_of("!=!"), [-1, 1, 3])
        self.assertEqual(tokens_of("=!"), [-1, 1, 2])


class Bad(TokensCase):
    """Each byte that can begin no token, and which of two is told."""

    NO_BEGINNINGS = (list(range(0, 9)) + [11, 12] + list(range(14, 32)) + [36, 38, 39, 63, 64, 92, 94, 96, 124, 126]
                     + list(range(127, 256)))

    def test_each_byte_that_begins_no_token(self):
        for byte in self.NO_BEGINNINGS:
            self.check_bad(bytes([byte]))
            self.assertEqual(tokens([97, byte]), [-1, 1, 2])
            self.assertEqual(tokens([59, 10, byte, 61]), [-1, 2, 1])

    def test_each_other_byte(self):
        for byte in range(256):
            if byte in self.NO_BEGINNINGS:
                continue
            text = chr(byte)
            if text in " \t\r\n#":
                self.assertEqual(tokens([byte]), [0])
            elif text in '!"':
                self.assertEqual(tokens([byte]), [-1, 1, 1])
            elif text in "0123456789":
                self.check_listed(text, (NUMBER, 1, 1, byte - 48))
            else:
                self.check_listed(text, (NAME if text in LETTERS + "_" else SIGN, 1, 1, text))

    def test_the_first_is_told(self):
        self.assertEqual(tokens_of("@ $"), [-1, 1, 1])
        self.assertEqual(tokens_of('a 1b "'), [-1, 1, 3])
        self.assertEqual(tokens_of('"\\q" 1a @'), [-1, 1, 1])
        self.assertEqual(tokens_of("a\nb\n" + "c" * 33 + "\n@"), [-1, 3, 1])
        self.assertEqual(tokens_of("a\n@\n"), [-1, 2, 1])

    def test_behind_a_remark(self):
        self.assertEqual(tokens_of("# @\n@"), [-1, 2, 1])
        self.assertEqual(tokens_of("a # \" $"), listed((NAME, 1, 1, "a")))


class LongTexts(TokensCase):
    def test_20000_bytes(self):
        self.assertEqual(tokens_of(" " * 20000), [0])
        self.assertEqual(tokens_of("\n" * 19999 + "a"), [1, 0, 20000, 1, 1, 97])
        self.assertEqual(tokens_of("#" * 20000), [0])
        self.assertEqual(tokens_of("0" * 19999 + "7"), [1, 2, 1, 1, 1, 7])
        self.assertEqual(tokens_of("9" * 20000), [-1, 1, 1])
        self.assertEqual(tokens_of("a" * 20000), [-1, 1, 1])
        self.assertEqual(tokens_of('"' + "a" * 19998 + '"'), [-1, 1, 1])
        self.assertEqual(tokens_of(";" * 19999 + "@"), [-1, 1, 20000])

    def test_20000_tokens(self):
        expected = [20000]
        for column in range(1, 20001):
            expected += [4, 1, column, 1, 40]
        self.assertEqual(tokens_of("(" * 20000), expected)
        expected = [10000]
        for line in range(1, 10001):
            expected += [0, line, 1, 1, 97]
        self.assertEqual(tokens_of("a\n" * 10000), expected)

    def test_65536_and_65537_bytes(self):
        self.assertEqual(tokens_of(" " * 20001), [0])
        self.assertEqual(tokens_of(" " * 65535 + "a"), [1, 0, 1, 65536, 1, 97])
        self.assertEqual(tokens_of(" " * 65535 + "@"), [-1, 1, 65536])
        self.assertEqual(tokens_of(" " * 65537), [-8])
        self.assertEqual(tokens_of("@" + " " * 65536), [-8])
        self.assertEqual(tokens_of("a" * 70000), [-8])


class AsReadCuts(unittest.TestCase):
    """read and tokens cut a text in the same way."""

    BAD = ("@", "!", "1a", "0x", "0x12345678901234567", "9223372036854775808", "a" * 33, '"', '"\n"', '"\\q"', '"\\x4"',
           '"' + "a" * 1025 + '"', "\x00", "\xff", "$", "~")
    NUMBERS = ("0", "007", "9223372036854775807", "0xfF", "0x8000000000000000", "0xffffffffffffffff")
    STRINGS = ('""', '"a"', '"\\x41\\n\\t\\\\\\""', '"' + "\\xff" * 1024 + '"')

    def test_what_can_not_be(self):
        for bad in self.BAD:
            text = "let a = 1; # x\n\t a = " + bad
            self.assertEqual(tokens_of(text), [-1, 2, 7], bad)
            self.assertEqual(read_one(text), [1, 0, 2, 7], bad)

    def test_numbers(self):
        for number in self.NUMBERS:
            answer = tokens_of(number)
            self.assertEqual(answer[:5], [1, 2, 1, 1, 1])
            self.assertEqual(read_one(number + ";")[:4], [0, 0, 1, answer[5]])

    def test_strings(self):
        for string in self.STRINGS:
            answer = tokens_of(string)
            self.assertEqual(answer[:4], [1, 3, 1, 1])
            self.assertEqual(read_one(string + ";")[1:len(answer) - 2], [1] + answer[4:])

    def test_names(self):
        for name in ("a", "_", "letx", "Let", "a" * 32):
            answer = tokens_of(name)
            self.assertEqual(answer[:4], [1, 0, 1, 1])
            self.assertEqual(read_one("1." + name + ";")[1:len(answer) - 2], [1] + answer[4:])

    def test_places(self):
        # Each text's token that can't stand where it does is the one with the number behind it.
        for text, number, line, column in (("a = # x\r\n\n\t)", 2, 3, 2), ('"\\x41"  "b";', 1, 1, 9), ("\r\n a 0x1f", 1, 2, 4),
                                           ("1==2\t!=3;", 3, 1, 6), ("f(1)\n\n\n  let", 4, 4, 3), ("nothing nothing_", 1, 1, 9)):
            answer = tokens_of(text)
            place = 1
            for _ in range(number):
                place += 4 + answer[place + 3]
            self.assertEqual(answer[place + 1:place + 3], [line, column], text)
            self.assertEqual(read_one(text), [2, 0, line, column], text)


CALLS = ("", "a", "let a = 1;", '"a\\x41" 0xff # x', "@", "a\n\"", "a" * 33, "# x", "(" * 100, " " * 65537)


class Unchanged(unittest.TestCase):
    def test_what_is_handed_in_stays(self):
        for text in CALLS:
            handed = as_bytes(text)
            tokens(handed)
            self.assertEqual(handed, as_bytes(text))

    def test_not_changed_for_a_while_either(self):
        class Watched(list):
            def refuse(self, *given, **named):
                raise AssertionError("what is handed in is changed")

            append = clear = extend = insert = pop = remove = reverse = sort = refuse
            __setitem__ = __delitem__ = __iadd__ = __imul__ = refuse

        for text in CALLS:
            self.assertEqual(tokens(Watched(as_bytes(text))), tokens_of(text))

    def test_the_same_call_twice(self):
        first = [tokens_of(text) for text in CALLS]
        again = [tokens_of(text) for text in reversed(CALLS)]
        self.assertEqual(first, again[::-1])
        handed = as_bytes("let a = 1;")
        self.assertEqual(tokens(handed), tokens(handed))

    def test_read_between_changes_nothing(self):
        before = tokens_of("let a = fn () {};")
        read([as_bytes("m"), as_bytes("let fn = 1;")])
        self.assertEqual(tokens_of("let a = fn () {};"), before)

    def test_an_answer_that_is_changed_changes_no_other(self):
        for text in CALLS:
            first = tokens_of(text)
            kept = list(first)
            first.clear()
            self.assertEqual(tokens_of(text), kept)

    def test_kinds_of_what_is_given_back(self):
        for text in CALLS:
            answer = tokens_of(text)
            self.assertIs(type(answer), list)
            self.assertTrue(all(type(number) is int for number in answer))
