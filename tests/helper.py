"""Calls of read and tokens with texts, and answers written down by hand, for the tests.

Nothing here is drawn from the program but the functions that are tested: the instructions' numbers are the document's.
"""

import unittest

from madeimage.language import read, tokens

NUMBERS = {
    "nothing": 0, "truth": 1, "number": 2, "string": 3, "get": 4, "put": 5, "cell": 6, "caught": 7, "catch": 8,
    "global": 9, "set": 10, "function": 11, "call": 12, "host": 13, "back": 14, "go": 15, "unless": 16, "drop": 17,
    "twice": 18, "swap": 19, "add": 20, "sub": 21, "mul": 22, "div": 23, "mod": 24, "minus": 25, "not": 26,
    "same": 27, "less": 28, "notmore": 29, "unlike": 30, "list": 31, "table": 32, "at": 33, "into": 34, "long": 35,
    "throw": 36, "guard": 37, "unguard": 38, "module": 39, "give": 40, "task": 41, "yield": 42, "channel": 43,
    "send": 44, "receive": 45, "join": 46, "wait": 47, "held": 48, "hold": 49,
}


def as_bytes(text):
    return list(text.encode("latin-1")) if isinstance(text, str) else list(text)


def read_modules(*names_and_texts):
    return read([as_bytes(text) for text in names_and_texts])


def read_one(text):
    return read_modules("m", text)


def told(text):
    return [len(text)] + as_bytes(text)


def function(name, code, lines, height, arguments=0, places=0, cells=(), catches=()):
    """A function's numbers.

    Code is written "number 0, drop, nothing, back"; lines is one line for all, or all of them, one after another,
    or a text of pairs such as "1x3 2x2": three of line 1, two of line 2.
    """
    rows = [row.split() for row in code.replace("\n", " ").split(",")]
    numbers = told(name) + [arguments, places, len(cells), *cells, len(catches)]
    for catch in catches:
        numbers += catch
    numbers += [height, len(rows)]
    for row in rows:
        two = [int(number) for number in row[1:]]
        numbers += [NUMBERS[row[0]]] + two + [0] * (2 - len(two))
    all_lines = spread(lines, len(rows))
    assert len(all_lines) == len(rows), (len(all_lines), len(rows))
    return numbers + all_lines


def spread(lines, count):
    if isinstance(lines, int):
        return [lines] * count
    if isinstance(lines, list):
        return lines
    pairs = [pair.split("x") for pair in lines.split()]
    return [int(line) for line, times in pairs for _ in range(int(times))]


def image(functions, strings=(), numbers=(), hosts=(), modules=(("m", 0, 0),)):
    """What read answers of a program that is right."""
    answer = [0, len(strings)]
    for string in strings:
        answer += told(string)
    answer += [len(numbers), *numbers, len(hosts)]
    for host in hosts:
        answer += told(host)
    answer.append(len(modules))
    for name, body, commons in modules:
        answer += told(name) + [body, commons]
    answer.append(len(functions))
    for numbers_of_function in functions:
        answer += numbers_of_function
    return answer


class ReadCase(unittest.TestCase):
    maxDiff = None

    def check_body(self, text, code, height, lines=1, places=0, commons=0, strings=(), numbers=(), hosts=()):
        """Check the whole answer for a module m that has a body alone."""
        body = function("m", code, lines, height, places=places)
        expected = image([body], strings, numbers, hosts, (("m", 0, commons),))
        self.assertEqual(read_one(text), expected, text)

    def check_wrong(self, text, kind, line, column):
        self.assertEqual(read_one(text), [kind, 0, line, column], text)

    def check_right(self, text):
        self.assertEqual(read_one(text)[0], 0, text)


NAME, WORD, NUMBER, STRING, SIGN = range(5)


def tokens_of(text):
    return tokens(as_bytes(text))


def listed(*rows):
    """What tokens answers of a text that is right: a row is a kind, line, column, and a number or a text."""
    answer = [len(rows)]
    for kind, line, column, value in rows:
        answer += [kind, line, column]
        answer += [1, value] if kind == NUMBER else told(value)
    return answer


class TokensCase(unittest.TestCase):
    maxDiff = None

    def check_listed(self, text, *rows):
        self.assertEqual(tokens_of(text), listed(*rows), text)

    def check_one(self, text, kind, value):
        """Check a token alone, and that its place is told behind others and on a later line."""
        self.check_listed(text, (kind, 1, 1, value))
        self.check_listed("a, " + text, (NAME, 1, 1, "a"), (SIGN, 1, 2, ","), (kind, 1, 4, value))
        self.check_listed(";# \"\n\r\t" + text + "\n;", (SIGN, 1, 1, ";"), (kind, 2, 3, value), (SIGN, 3, 1, ";"))

    def check_bad(self, text):
        """Check that the text's first token can't be: at the beginning, behind good tokens, on a later line."""
        text = bytes(as_bytes(text))
        for behind in (b"", b" ", b"\n;", b" a"):
            self.assertEqual(tokens_of(text + behind), [-1, 1, 1], (text, behind))
            self.assertEqual(tokens_of(b'let a = "\\x41" + ' + text + behind), [-1, 1, 18], (text, behind))
            self.assertEqual(tokens_of(b'f(1); # "\n\n\t0x7f, ' + text + behind), [-1, 3, 8], (text, behind))
