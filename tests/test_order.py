"""Two things that are wrong: which of them is told."""

import unittest

from tests.helper import ReadCase, read_modules


class InOneModule(ReadCase):
    def test_from_the_front(self):
        self.check_wrong("@ let", 1, 1, 1)
        self.check_wrong("let 1; @", 2, 1, 5)
        self.check_wrong("let a = 1; ; @", 2, 1, 12)
        self.check_wrong("1 = 2; task f;", 5, 1, 3)
        self.check_wrong("task f; 1 = 2;", 5, 1, 1)
        self.check_wrong("1 = 2; " + "(" * 41, 5, 1, 3)
        self.check_wrong("(" * 41 + " 1 = 2;", 6, 1, 41)
        self.check_wrong("f(" + "1," * 33 + "@", 6, 1, 67)
        self.check_wrong("f(" + "1," * 31 + "@", 1, 1, 65)

    def test_reading_before_names(self):
        self.check_wrong("zz; let a = 1; let a = 2; break; let", 2, 1, 37)
        self.check_wrong("zz;\n@", 1, 2, 1)
        self.check_wrong("zz;\n1 = 2;", 5, 2, 3)
        self.check_wrong("zz;\n" + "(" * 41, 6, 2, 41)
        self.check_wrong('use "zz" as a; @', 1, 1, 16)
        self.check_wrong('use "m" as a; task 1;', 5, 1, 15)

    def test_names_in_the_order_of_the_text(self):
        self.check_wrong("zz; let a = 1; let a = 2;", 3, 1, 1)
        self.check_wrong("let a = 1; let a = 2; zz;", 4, 1, 16)
        self.check_wrong("break; zz;", 5, 1, 1)
        self.check_wrong("zz; break;", 3, 1, 1)
        self.check_wrong("yy + zz;", 3, 1, 1)
        self.check_wrong("yy = zz;", 3, 1, 1)
        self.check_wrong("yy[zz] = xx;", 3, 1, 1)
        self.check_wrong("1[zz] = xx;", 3, 1, 3)
        self.check_wrong("{[yy]: zz};", 3, 1, 3)
        self.check_wrong("yy(zz);", 3, 1, 1)
        self.check_wrong("host h(yy, zz);", 3, 1, 8)
        self.check_wrong("let a = 1; let a = zz;", 4, 1, 16)
        self.check_wrong("let a = zz; let a = 1;", 3, 1, 9)
        self.check_wrong("for i in yy to zz { xx; }", 3, 1, 10)
        self.check_wrong("if yy { zz; }", 3, 1, 4)
        self.check_wrong("return zz;", 5, 1, 1)
        self.check_wrong("fn f(a, a) { zz; }", 4, 1, 9)
        self.check_wrong("let f = 1; fn f(a, a) { zz; }", 4, 1, 15)
        self.check_wrong("fn f() { zz; } let f = 1;", 3, 1, 10)
        self.check_wrong('use "zz" as a; b;', 7, 1, 5)
        self.check_wrong('b; use "zz" as a;', 3, 1, 1)
        self.check_wrong('use "m" as a; use "zz" as b;', 8, 1, 5)
        self.check_wrong('use "zz" as a; use "m" as b;', 7, 1, 5)
        self.check_wrong('if 1 { use "m" as a; }', 5, 1, 8)
        self.check_wrong("give yy; give yy;", 3, 1, 6)

    def test_a_uses_name_assigned_before_the_exp(self):
        self.assertEqual(read_modules("m", 'use "z" as a; a = zz;', "z", ""), [5, 0, 1, 15])
        self.assertEqual(read_modules("m", 'use "z" as a; zz; a = 1;', "z", ""), [3, 0, 1, 15])

    def test_size_is_met_at_the_functions_end(self):
        lets = "".join(f"let a{number} = 1;" for number in range(251))
        self.check_wrong("fn f() {" + lets + "}", 6, 1, 1)
        self.check_wrong("fn f() {" + lets + "zz; }", 3, 1, len("fn f() {" + lets) + 1)
        self.check_wrong("fn f() {" + lets + "} zz;", 6, 1, 1)
        self.check_wrong("zz; fn f() {" + lets + "}", 3, 1, 1)
        self.check_wrong("1; fn f() { fn g() {" + lets + "} zz; }", 6, 1, 13)


class InTwoModules(unittest.TestCase):
    def check(self, first, second, *answer):
        self.assertEqual(read_modules("a", first, "b", second), list(answer))

    def test_the_first_module_first(self):
        self.check("@", "let", 1, 0, 1, 1)
        self.check("let", "@", 2, 0, 1, 4)
        self.check("zz;", "break;", 3, 0, 1, 1)
        self.check("break;", "zz;", 5, 0, 1, 1)

    def test_reading_of_all_before_names_of_any(self):
        self.check("zz;", "@", 1, 1, 1, 1)
        self.check("zz;", "\nlet", 2, 1, 2, 4)
        self.check("zz;", "1 = 2;", 5, 1, 1, 3)
        self.check("zz;", "(" * 41, 6, 1, 1, 41)
        self.check("let a = 1; let a = 1;", "f(", 2, 1, 1, 3)

    def test_the_second_alone(self):
        self.check("", "\n zz;", 3, 1, 2, 2)
        self.check("", "@", 1, 1, 1, 1)

    def test_rings_before_names_of_the_second(self):
        self.check('use "b" as b;', 'zz; use "a" as a;', 8, 0, 1, 5)
        self.check('zz; use "b" as b;', 'use "a" as a;', 3, 0, 1, 1)
        self.check("", 'use "b" as b; zz;', 8, 1, 1, 5)

    def test_a_ring_closed_by_a_use_in_a_block(self):
        # A use in a block mayn't stand there, so it closes no ring.
        self.check('use "b" as b;', 'if 1 { use "a" as a; }', 5, 1, 1, 8)
