"""What lies within another is read by loops: however deep a text is, no more calls stand within one another."""

import sys
import unittest

from madeimage.language import read, tokens
from tests.helper import as_bytes

# What a flat text takes, and some room; one more call for each of 40 would be far beyond it.
MOST_CALLS = 20

JOINED = "a or a and a==a+a*"
# What stands before and behind an exp, and how often that may stand within itself.
EXPS = (
    (JOINED + "(", ")", 40), (JOINED + "[", "]", 40), (JOINED + "[a,", ",a]", 40), (JOINED + "{a:", "}", 40),
    (JOINED + "{a:a,a:", ",a:a}", 40), (JOINED + "{[", "]:a}", 20), (JOINED + "a(", ")", 40),
    (JOINED + "a(a,", ",a)", 40), (JOINED + "a[", "]", 40), (JOINED + "a.b[", "].b", 40), (JOINED + "host h(", ")", 40),
    (JOINED + "len(", ")", 40), (JOINED + "wait(", ")", 40), (JOINED + "send(a,", ")", 40),
    (JOINED + "send(", ",a)", 40), (JOINED + "task a(", ")", 20), (JOINED + "host h(task a(", "))", 13),
    ("not ", "", 40), ("-", "", 40), ("a and not a==a+a*[", "]", 20), ("a-a*-(", ")", 20),
    (JOINED + "fn(){", ";}", 40), (JOINED + "fn(b){a=", ";}", 40), (JOINED + "fn(){a.b=", ";}", 40),
    (JOINED + "fn(){let b=", ";}", 40), (JOINED + "fn(){return ", ";}", 40), (JOINED + "fn(){throw ", ";}", 40),
    (JOINED + "fn(){if ", "{}}", 39), (JOINED + "fn(){if a{}else if ", "{}}", 39), (JOINED + "fn(){while ", "{}}", 39),
    (JOINED + "fn(){for b in ", " to a{}}", 39), (JOINED + "fn(){for b in a to ", "{}}", 39),
    (JOINED + "fn(){if a{", ";}}", 20), (JOINED + "fn(){try{", ";}catch b{}}", 20),
)
BLOCKS = (
    ("fn f(){", "}"), ("if a{", "}"), ("if a{}else{", "}"), ("if a{}else if a{", "}else{}"), ("while a{", "}"),
    ("for b in a to a{", "}"), ("try{", "}catch b{}"), ("try{}catch b{", "}"),
    ("a=a or a and a==a+a*fn(){", "};"), ("let b=fn(){", "};"),
)


class Depth:
    """Counts the calls that stand within one another."""

    def __init__(self):
        self.now = 0
        self.most = 0

    def see(self, frame, event, argument):
        if event == "call":
            self.now += 1
            self.most = max(self.most, self.now)
        elif event == "return":
            self.now -= 1


def answer_and_calls(function, value):
    """What the function answers, and how many calls stood within one another."""
    depth = Depth()
    before = sys.getprofile()
    sys.setprofile(depth.see)
    try:
        answer = function(value)
    finally:
        sys.setprofile(before)
    return answer, depth.most


def module(text):
    return [as_bytes("m"), as_bytes(text)]


def assigned(first, last, times):
    return "let a = 1; a = " + first * times + "a" + last * times + ";"


def done(first, last, times):
    return "let a = 1;" + first * times + "a;" + last * times


class CallsWithinCalls(unittest.TestCase):
    def check_right(self, text):
        answer, calls = answer_and_calls(read, module(text))
        self.assertEqual(answer[0], 0, text)
        self.assertLessEqual(calls, MOST_CALLS, text)

    def check_too_deep(self, text):
        answer, calls = answer_and_calls(read, module(text))
        self.assertEqual(answer[:2], [6, 0], text)
        self.assertLessEqual(calls, MOST_CALLS, text)

    def test_that_calls_are_counted(self):
        def down(count):
            return 0 if count == 0 else down(count - 1)
        self.assertEqual(answer_and_calls(down, 99), (0, 100))

    def test_exps(self):
        for first, last, times in EXPS:
            self.check_right(assigned(first, last, times))
            self.check_too_deep(assigned(first, last, times + 1))

    def test_blocks(self):
        for first, last in BLOCKS:
            self.check_right(done(first, last, 40))
            self.check_too_deep(done(first, last, 41))

    def test_what_is_long(self):
        self.check_right("let a = 1;" + "if a{}else " * 60 + "{a;}")
        self.check_right("let a = 1; a = " + JOINED * 60 + "a;")
        self.check_right("let a = 1; a = a" + "(a)[a].b" * 100 + ";")

    def test_tokens(self):
        text = as_bytes("a(" * 300)
        answer, calls = answer_and_calls(tokens, text)
        self.assertEqual(answer[0], 600)
        self.assertLessEqual(calls, MOST_CALLS)


if __name__ == "__main__":
    unittest.main()
