"""Cuts a module's text into tokens.

The last token is "end", or "bad" where no token can be: whether a bad one is ever met is for the reader to say,
for something else may be wrong before it.
"""

LONGEST_NAME = 32
LONGEST_STRING = 1024
GREATEST_NUMBER = 9223372036854775807
MOST_HEX_DIGITS = 16

LINE_FEED = 10
QUOTE = 34
HASH = 35
EQUALS = 61
BACKSLASH = 92
LOWER_X = 120
NO_BYTE = 256

WORDS = (
    "let", "fn", "if", "else", "while", "for", "in", "to", "break", "continue", "return", "throw", "try", "catch",
    "use", "as", "give", "and", "or", "not", "true", "false", "nothing", "host", "task", "yield", "channel", "send",
    "receive", "join", "wait", "len",
)

# The sign of byte 37 is called rem, for that sign itself may not stand within a text of this program.
SIGNS = {
    40: "(", 41: ")", 123: "{", 125: "}", 91: "[", 93: "]", 44: ",", 59: ";", 58: ":", 46: ".",
    61: "=", 60: "<", 62: ">", 43: "+", 45: "-", 42: "*", 47: "/", 37: "rem",
}
SIGNS_WITH_EQUALS = {61: "==", 33: "!=", 60: "<=", 62: ">="}
ESCAPES = {110: 10, 116: 9, 92: 92, 34: 34}


class Token:
    """Its value: a name's or a string's bytes, a number's worth, the text of a word or a sign, else None."""

    def __init__(self, kind, value, line, column):
        self.kind = kind
        self.value = value
        self.line = line
        self.column = column


def is_blank(byte):
    return byte in (32, 9, 13, 10)


def is_digit(byte):
    return 48 <= byte and byte <= 57


def is_letter(byte):
    return 97 <= byte and byte <= 122 or 65 <= byte and byte <= 90 or byte == 95


def is_name_byte(byte):
    return is_letter(byte) or is_digit(byte)


def hex_worth(byte):
    """What a hexadecimal digit is worth, or None."""
    if is_digit(byte):
        return byte - 48
    if 97 <= byte and byte <= 102:
        return byte - 87
    if 65 <= byte and byte <= 70:
        return byte - 55
    return None


def words_by_bytes():
    found = {}
    for word in WORDS:
        found[tuple([ord(letter) for letter in word])] = word
    return found


def signed_worth(worth):
    return worth - 2 ** 64 if worth > GREATEST_NUMBER else worth


class Scanner:
    """Each reading method answers what it has read, or None where no such token can be."""

    def __init__(self, text):
        self.text = text
        self.place = 0
        self.line = 1
        self.line_start = 0
        self.words = words_by_bytes()

    def byte_ahead(self, ahead):
        place = self.place + ahead
        return self.text[place] if place < len(self.text) else NO_BYTE

    def skip_remark(self):
        while self.place < len(self.text) and self.text[self.place] != LINE_FEED:
            self.place += 1

    def skip_blank(self):
        if self.text[self.place] == LINE_FEED:
            self.line += 1
            self.line_start = self.place + 1
        self.place += 1

    def skip_to_token(self):
        byte = self.byte_ahead(0)
        while is_blank(byte) or byte == HASH:
            if byte == HASH:
                self.skip_remark()
            else:
                self.skip_blank()
            byte = self.byte_ahead(0)

    def read_token(self):
        self.skip_to_token()
        line = self.line
        column = self.place - self.line_start + 1
        if self.place == len(self.text):
            return Token("end", None, line, column)
        kind = self.kind_here()
        value = self.read_value(kind)
        if kind == "name" and value in self.words:
            return Token("word", self.words[value], line, column)
        return Token("bad" if value is None else kind, value, line, column)

    def kind_here(self):
        byte = self.byte_ahead(0)
        if is_letter(byte):
            return "name"
        if is_digit(byte):
            return "number"
        return "string" if byte == QUOTE else "sign"

    def read_value(self, kind):
        if kind == "name":
            return self.read_name()
        if kind == "number":
            return self.read_number()
        return self.read_string() if kind == "string" else self.read_sign()

    def read_name(self):
        first = self.place
        while is_name_byte(self.byte_ahead(0)):
            self.place += 1
        if self.place - first > LONGEST_NAME:
            return None
        return tuple(self.text[first:self.place])

    def read_number(self):
        if self.byte_ahead(0) == 48 and self.byte_ahead(1) == LOWER_X:
            worth = self.read_hex_number()
        else:
            worth = self.read_decimal_number()
        return None if is_name_byte(self.byte_ahead(0)) else worth

    def read_hex_number(self):
        self.place += 2
        first = self.place
        worth = 0
        digit = hex_worth(self.byte_ahead(0))
        while digit is not None and self.place - first < MOST_HEX_DIGITS:
            worth = worth * 16 + digit
            self.place += 1
            digit = hex_worth(self.byte_ahead(0))
        return None if self.place == first else signed_worth(worth)

    def read_decimal_number(self):
        worth = 0
        while is_digit(self.byte_ahead(0)):
            # What is too great stays just too great, so that many digits make no huge number.
            worth = min(worth * 10 + self.byte_ahead(0) - 48, GREATEST_NUMBER + 1)
            self.place += 1
        return None if worth > GREATEST_NUMBER else worth

    def read_string(self):
        self.place += 1
        stands_for = []
        while self.byte_ahead(0) != QUOTE:
            byte = self.read_string_byte()
            if byte is None or len(stands_for) == LONGEST_STRING:
                return None
            stands_for.append(byte)
        self.place += 1
        return tuple(stands_for)

    def read_string_byte(self):
        byte = self.byte_ahead(0)
        if byte == BACKSLASH:
            return self.read_escape()
        self.place += 1
        return byte if 32 <= byte and byte <= 126 else None

    def read_escape(self):
        if self.byte_ahead(1) != LOWER_X:
            byte = ESCAPES.get(self.byte_ahead(1))
            self.place += 2
            return byte
        high = hex_worth(self.byte_ahead(2))
        low = hex_worth(self.byte_ahead(3))
        self.place += 4
        return None if high is None or low is None else high * 16 + low

    def read_sign(self):
        byte = self.byte_ahead(0)
        if byte in SIGNS_WITH_EQUALS and self.byte_ahead(1) == EQUALS:
            self.place += 2
            return SIGNS_WITH_EQUALS[byte]
        self.place += 1
        return SIGNS.get(byte)


def scan(text):
    """The text's tokens, with the "end" or the first "bad" one behind them."""
    scanner = Scanner(text)
    found = [scanner.read_token()]
    while found[-1].kind not in ("end", "bad"):
        found.append(scanner.read_token())
    return found
