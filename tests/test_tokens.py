"""Tokens: blanks, remarks, places, names, words, numbers, strings, signs, and those that can't be."""

from tests.helper import ReadCase, read_modules, read_one

WORDS = """let fn if else while for in to break continue return throw try catch use as give and or not true false
nothing host task yield channel send receive join wait len""".split()


class Blanks(ReadCase):
    def test_blanks(self):
        self.check_body("\t 7\r;\n \t", "number 0, drop, nothing, back", 1, lines="1x2 2x2", numbers=[7])

    def test_no_blank_is_needed(self):
        self.check_body("1+-2;", "number 0, number 1, minus, add, drop, nothing, back", 2, numbers=[1, 2])
        self.check_right("let a=1;a;fn f(a,b){return(a);}")

    def test_each_blank_is_one_column(self):
        self.check_wrong("\t\r  @", 1, 1, 5)
        self.check_wrong("\n\n\t@", 1, 3, 2)
        self.check_wrong("\r\n @", 1, 2, 2)

    def test_a_carriage_return_ends_no_line(self):
        self.check_body("1;\r2;", "number 0, drop, number 1, drop, nothing, back", 1, lines=1, numbers=[1, 2])
        self.check_right("# a\r@")

    def test_remarks(self):
        self.check_body("# 1;\n7; # 2;\n#", "number 0, drop, nothing, back", 1, lines="2x2 3x2", numbers=[7])
        self.check_body("7#;\n;", "number 0, drop, nothing, back", 1, lines="1x2 2x2", numbers=[7])

    def test_remarks_may_hold_any_byte(self):
        every = bytes(byte for byte in range(256) if byte != 10)
        self.assertEqual(read_modules("m", b"#" + every), read_one(""))
        self.assertEqual(read_modules("m", b"#" + every + b"\n@"), [1, 0, 2, 1])

    def test_a_text_that_ends_in_a_remark(self):
        self.check_right("1; # and")
        self.check_wrong("1 # and", 2, 1, 8)

    def test_a_hash_within_a_string_is_no_remark(self):
        self.check_body('"#";', "string 0, drop, nothing, back", 1, strings=["#"])

    def test_other_bytes_can_not_be(self):
        for byte in range(256):
            if byte in (9, 10, 13, 32):
                continue
            if chr(byte) in "(){}[],;:.=<>+-*/%#\"_" or chr(byte).isalnum() and byte < 128:
                continue
            answer = read_modules("m", b"1;\n " + bytes([byte]))
            self.assertEqual(answer, [1, 0, 2, 2], byte)


class Places(ReadCase):
    def test_place_of_the_end(self):
        self.check_wrong("1", 2, 1, 2)
        self.check_wrong("1 ", 2, 1, 3)
        self.check_wrong("1\n", 2, 2, 1)
        self.check_wrong("1 # x", 2, 1, 6)
        self.check_wrong("if", 2, 1, 3)
        self.check_wrong("\n\nlet a = 1;\n  let", 2, 4, 6)

    def test_columns_count_bytes(self):
        self.check_wrong('"\\x41" @', 1, 1, 8)
        self.check_wrong("abc = @;", 1, 1, 7)


class Names(ReadCase):
    def test_names(self):
        for name in ("a", "Z", "_", "_9", "a1_B", "letx", "Let", "LET", "iff", "nothing1", "len_"):
            code = "number 0, set 0, global 0, give 0, nothing, back"
            self.check_body(f"let {name} = 1; give {name};", code, 1, commons=1, numbers=[1], strings=[name])

    def test_each_letter_and_digit(self):
        letters = "abcdefghijklmnopqrstuvwxyzABCDEFGHIJKLMNOPQRSTUVWXYZ_"
        for letter in letters:
            self.check_right(f"let {letter} = 1; let x{letter}x = 1; {letter};")
        for digit in "0123456789":
            self.check_right(f"let x{digit} = {digit}; x{digit};")
            self.check_wrong(f"let {digit} = 1;", 2, 1, 5)

    def test_names_of_32_and_33_bytes(self):
        name = "a" * 32
        code = "number 0, set 0, global 0, give 0, nothing, back"
        self.check_body(f"let {name} = 1; give {name};", code, 1, commons=1, numbers=[1], strings=[name])
        self.check_wrong(f"let {name}a = 1;", 1, 1, 5)
        self.check_wrong(f"\n  1.{name}_;", 1, 2, 5)
        self.check_wrong(f"host {name}9();", 1, 1, 6)

    def test_names_differ_by_their_last_byte_and_their_size(self):
        name = "a" * 31
        self.check_right(f"let {name}b = 1; let {name}c = 1; let {name} = 1; let {name}B = 1;")

    def test_words_are_no_names(self):
        for word in WORDS:
            self.check_wrong(f"let {word} = 1;", 2, 1, 5)
            self.check_wrong(f"1.{word};", 2, 1, 3)
            self.check_wrong("({" + word + ": 1});", 2, 1, 3)

    def test_words_joined_with_more_are_names(self):
        for word in WORDS:
            self.check_right(f"let {word}x = 1; let x{word} = 2; let {word}0 = 3; let {word}_ = 4;")


class Numbers(ReadCase):
    def check_number(self, text, worth):
        self.check_body(text + ";", "number 0, drop, nothing, back", 1, numbers=[worth])

    def test_digits(self):
        self.check_number("0", 0)
        self.check_number("1234567890", 1234567890)
        self.check_number("007", 7)
        self.check_number("0" * 50 + "12", 12)

    def test_the_greatest(self):
        self.check_number("9223372036854775807", 9223372036854775807)
        self.check_number("009223372036854775807", 9223372036854775807)
        self.check_wrong("9223372036854775808;", 1, 1, 1)
        self.check_wrong(" 09223372036854775808;", 1, 1, 2)
        self.check_wrong("-9223372036854775808;", 1, 1, 2)
        self.check_wrong("10000000000000000000;", 1, 1, 1)
        self.check_wrong("9" * 1900 + ";", 1, 1, 1)

    def test_hexadecimal(self):
        self.check_number("0x0", 0)
        self.check_number("0x9", 9)
        self.check_number("0xaF", 175)
        self.check_number("0xABCDEF", 11259375)
        self.check_number("0xabcdef", 11259375)
        self.check_number("0x7fffffffffffffff", 9223372036854775807)
        self.check_number("0x8000000000000000", -9223372036854775808)
        self.check_number("0xffffffffffffffff", -1)
        self.check_number("0xFFFFFFFFFFFFFFFE", -2)
        self.check_number("0x0000000000000001", 1)

    def test_each_hexadecimal_digit(self):
        for worth, digit in enumerate("0123456789abcdef"):
            self.check_number("0x1" + digit, 16 + worth)
            self.check_number("0x1" + digit.upper(), 16 + worth)
            self.check_body(f'"\\x{digit}0\\x0{digit.upper()}";', "string 0, drop, nothing, back", 1,
                            strings=[chr(16 * worth) + chr(worth)])

    def test_bytes_around_the_hexadecimal_digits(self):
        for byte in "/:@G`g":
            self.check_wrong(f"0x{byte};", 1, 1, 1)
            self.check_wrong(f'"\\x{byte}0";', 1, 1, 1)
            self.check_wrong(f'"\\x0{byte}";', 1, 1, 1)
        for byte in "Gg":
            self.check_wrong(f"0x1{byte};", 1, 1, 1)

    def test_hexadecimal_digits_1_16_17(self):
        self.check_number("0xf", 15)
        self.check_number("0x123456789abcdef0", 1311768467463790320)
        self.check_wrong("0x123456789abcdef01;", 1, 1, 1)
        self.check_wrong("0x00000000000000001;", 1, 1, 1)
        self.check_wrong("0x;", 1, 1, 1)
        self.check_wrong("0xg;", 1, 1, 1)

    def test_a_letter_right_behind(self):
        self.check_wrong("1a;", 1, 1, 1)
        self.check_wrong(" 12_;", 1, 1, 2)
        self.check_wrong("1Z;", 1, 1, 1)
        self.check_wrong("0X1;", 1, 1, 1)
        self.check_wrong("00x1;", 1, 1, 1)
        self.check_wrong("0x1g;", 1, 1, 1)
        self.check_wrong("0x1_;", 1, 1, 1)
        self.check_wrong("1or 2;", 1, 1, 1)

    def test_what_may_stand_right_behind(self):
        self.check_body("1.x;", "number 0, string 0, at, drop, nothing, back", 2, numbers=[1], strings=["x"])
        self.check_right("[1];")
        self.check_wrong('1"a";', 2, 1, 2)
        self.check_wrong("1.5;", 2, 1, 3)

    def test_a_text_that_ends_in_a_number(self):
        self.check_wrong("12", 2, 1, 3)
        self.check_wrong("0x", 1, 1, 1)
        self.check_wrong("0x1", 2, 1, 4)


class Strings(ReadCase):
    def check_string(self, text, stands_for):
        self.check_body(text + ";", "string 0, drop, nothing, back", 1, strings=[stands_for])

    def test_plain(self):
        self.check_string('""', "")
        self.check_string('"a b"', "a b")
        every = "".join(chr(byte) for byte in range(32, 127) if chr(byte) not in '"\\')
        self.check_string(f'"{every}"', every)

    def test_escapes(self):
        self.check_string(r'"\n\t\\\""', "\n\t\\\"")
        self.check_string(r'"\x41\x00\xfF\xFf"', "A\x00\xff\xff")
        self.check_string(r'"\x411"', "A1")
        self.check_string(r'"\\x41"', "\\x41")

    def test_alike_in_two_forms(self):
        self.check_body(r'"A"; "\x41";', "string 0, drop, string 0, drop, nothing, back", 1, strings=["A"])

    def test_1024_and_1025_bytes(self):
        self.check_string('"' + "a" * 1024 + '"', "a" * 1024)
        self.check_wrong('"' + "a" * 1025 + '";', 1, 1, 1)
        self.check_wrong('1;\n "' + "a" * 1500 + '";', 1, 2, 2)

    def test_bytes_that_it_stands_for_are_counted(self):
        self.check_string('"' + "\\x41" * 400 + "a" * 624 + '"', "A" * 400 + "a" * 624)
        self.assertEqual(read_modules("m", '"' + "\\x41" * 1024 + '";')[0], 0)
        self.assertEqual(read_modules("m", '"' + "\\x41" * 1025 + '";'), [1, 0, 1, 1])
        self.assertEqual(read_modules("m", '"' + "\\n" * 1024 + '";')[0], 0)
        self.assertEqual(read_modules("m", '"' + "\\n" * 1025 + '";'), [1, 0, 1, 1])

    def test_bytes_that_can_not_be(self):
        for byte in list(range(32)) + list(range(127, 256)):
            answer = read_modules("m", b' "a' + bytes([byte]) + b'";')
            self.assertEqual(answer, [1, 0, 1, 2], byte)

    def test_escapes_that_can_not_be(self):
        for escape in ("\\a", "\\r", "\\0", "\\N", "\\X41", "\\x4", "\\xg1", "\\x1g", "\\x", "\\ ", "\\'", "\\x 1"):
            self.check_wrong(f' "ab{escape}";', 1, 1, 2)

    def test_a_text_that_ends_in_a_string(self):
        for text in ('"', '"abc', '"abc\\', '"abc\\"', '"\\x', '"\\x4', '"abc;\n";'):
            self.check_wrong("\n" + text, 1, 2, 1)


class Signs(ReadCase):
    def test_the_longest(self):
        self.check_body("1<=2;", "number 0, number 1, notmore, drop, nothing, back", 2, numbers=[1, 2])
        self.check_body("1>=2;", "number 0, number 1, swap, notmore, drop, nothing, back", 2, numbers=[1, 2])
        self.check_body("1==2;", "number 0, number 1, same, drop, nothing, back", 2, numbers=[1, 2])
        self.check_body("1!=2;", "number 0, number 1, unlike, drop, nothing, back", 2, numbers=[1, 2])
        self.check_wrong("1< =2;", 2, 1, 4)
        self.check_wrong("let a = 1; a===2;", 2, 1, 15)
        self.check_wrong("1=<2;", 5, 1, 2)

    def test_a_lone_exclamation_mark(self):
        self.check_wrong("!1;", 1, 1, 1)
        self.check_wrong("1 ! = 2;", 1, 1, 3)
        self.check_wrong("1;!", 1, 1, 3)

    def test_other_signs_can_not_be(self):
        for sign in "@$&'?^`|~\\":
            self.check_wrong(f"1 {sign} 2;", 1, 1, 3)
