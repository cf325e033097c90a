"""The call itself: -8, what is handed in stays as it is, and nothing is kept."""

import unittest

from madeimage.language import read
from tests.helper import as_bytes, read_modules


def modules_of(count):
    handed = []
    for number in range(count):
        handed += [as_bytes(f"m{number}"), []]
    return handed


class Refused(unittest.TestCase):
    def check_refused(self, *names_and_texts):
        self.assertEqual(read_modules(*names_and_texts), [-8])

    def check_taken(self, *names_and_texts):
        self.assertEqual(read_modules(*names_and_texts)[0], 0)

    def test_no_module(self):
        self.assertEqual(read([]), [-8])

    def test_1_16_17_modules_and_more(self):
        self.assertEqual(read(modules_of(1))[0], 0)
        self.assertEqual(read(modules_of(16))[0:5], [0, 0, 0, 0, 16])
        self.assertEqual(read(modules_of(17)), [-8])
        self.assertEqual(read(modules_of(29)), [-8])

    def test_names_of_0_1_32_33_bytes(self):
        self.check_refused("", "")
        self.check_taken("a", "")
        self.check_taken("a" * 32, "")
        self.check_refused("a" * 33, "")
        self.check_refused("a", "", "", "")
        self.check_refused("a", "", "b" * 33, "")

    def test_bytes_of_names(self):
        self.check_refused("a\x20b", "")
        self.check_taken("a\x21b", "")
        self.check_taken("a\x7eb", "")
        self.check_refused("a\x7fb", "")
        for byte in range(256):
            expected = 0 if 33 <= byte <= 126 else -8
            self.assertEqual(read([[byte], []])[0], expected, byte)

    def test_names_alike(self):
        self.check_refused("a", "", "a", "")
        self.check_refused("a", "", "b", "", "c", "", "b", "")
        self.check_taken("a", "", "A", "", "aa", "")

    def test_too_long_a_text(self):
        self.check_taken("a", " " * 65536)
        self.check_refused("a", " " * 65537)
        self.check_refused("a", "", "b", "@" * 65537)

    def test_an_odd_number_of_lists(self):
        self.check_refused("a")
        self.check_refused("a", "", "b")

    def test_refused_before_anything_is_read(self):
        self.check_refused("a", "@", "a", "")
        self.check_refused("a", "@", "", "")

    def test_texts_of_0_bytes(self):
        self.check_taken("a", "", "b", "")


CALLS = (
    ["m", ""],
    ["m", "let a = 1; fn f(b) { return fn () { b = a; }; } give f;"],
    ["m", "let a = ;"],
    ["m", "let a = b;"],
    ["m", 'use "n" as n; n.x;', "n", "let x = [1, {a: 2}]; give x;"],
    ["m", 'use "n" as n;', "n", 'use "m" as m;'],
    ["m", "1;", "m", "2;"],
    ["m", "\"abc"],
    ["m", "while 1 { try { break; } catch e {} }"],
)


class Unchanged(unittest.TestCase):
    def test_what_is_handed_in_stays(self):
        for call in CALLS:
            handed = [as_bytes(text) for text in call]
            lists = list(handed)
            read(handed)
            self.assertEqual(handed, [as_bytes(text) for text in call])
            self.assertTrue(all(one is other for one, other in zip(handed, lists)))

    def test_the_same_call_twice(self):
        first = [read_modules(*call) for call in CALLS]
        again = [read_modules(*call) for call in reversed(CALLS)]
        self.assertEqual(first, again[::-1])

    def test_an_answer_that_is_changed_changes_no_other(self):
        for call in CALLS:
            first = read_modules(*call)
            kept = list(first)
            first.clear()
            self.assertEqual(read_modules(*call), kept)

    def test_one_list_for_two_texts(self):
        text = as_bytes("let a = 1;")
        self.assertEqual(read([as_bytes("m"), text, as_bytes("n"), text])[0], 0)

    def test_kinds_of_what_is_given_back(self):
        for call in CALLS:
            answer = read_modules(*call)
            self.assertIs(type(answer), list)
            self.assertTrue(all(type(number) is int for number in answer))
