"""What is wrong with names: not there (3), told twice (4), a word where it mayn't stand (5)."""

from tests.helper import ReadCase, function, image, read_one


class NotThere(ReadCase):
    def test_never_told(self):
        self.check_wrong("a;", 3, 1, 1)
        self.check_wrong("\n  1 + a;", 3, 2, 7)
        self.check_wrong("fn f() { return a; }", 3, 1, 17)
        self.check_wrong("a = 1;", 3, 1, 1)
        self.check_wrong("a.b = 1;", 3, 1, 1)
        self.check_wrong("a[1] = 1;", 3, 1, 1)
        self.check_wrong("1[a] = 1;", 3, 1, 3)
        self.check_wrong("{[a]: 1};", 3, 1, 3)
        self.check_wrong("{a: a};", 3, 1, 5)

    def test_in_each_exp(self):
        for before, behind in (("1 or ", ""), ("1 and ", ""), ("not ", ""), ("-", ""), ("1 == ", ""), ("1 * ", ""), ("1(", ")"),
                               ("1[", "]"), ("(", ")"), ("[1, ", "]"), ("host h(", ")"), ("task ", "()"), ("task 1(", ")"),
                               ("channel(", ")"), ("receive(", ")"), ("join(", ")"), ("wait(", ")"), ("len(", ")"),
                               ("send(", ", 1)"), ("send(1, ", ")"), ("{[1]: ", "}"), ("fn () { ", "; }"), ("", ".x"), ("", "()")):
            self.check_wrong(before + "a" + behind + ";", 3, 1, len(before) + 1)

    def test_in_each_stat(self):
        for before, behind in (("let b = ", ";"), ("if ", " {}"), ("if 1 {} else if ", " {}"), ("while ", " {}"), ("for i in ", " to 1 {}"),
                               ("for i in 1 to ", " {}"), ("throw ", ";"), ("fn f() { return ", "; }"), ("try { ", "; } catch e {}"),
                               ("try {} catch e { ", "; }"), ("if 1 { ", "; }"), ("while 1 { ", "; }"), ("if 1 {} else { ", "; }")):
            self.check_wrong(before + "a" + behind, 3, 1, len(before) + 1)

    def test_lets_name_holds_behind_its_exp(self):
        self.check_wrong("let a = a;", 3, 1, 9)
        self.check_wrong("if 1 { let a = a; }", 3, 1, 16)
        self.check_wrong("fn f() { let a = a; }", 3, 1, 18)
        self.check_wrong("if 1 { let a = fn () { a; }; }", 3, 1, 24)
        self.check_right("let a = fn () { a; };")
        self.check_right("let a = 1; let b = a;")

    def test_fns_name_holds_from_it_on(self):
        self.check_right("fn f() { f(); }")
        self.check_right("if 1 { fn f() { f(); } f(); }")
        self.check_wrong("if 1 { f(); fn f() {} }", 3, 1, 8)

    def test_the_body_sees_common_names_told_before(self):
        self.check_wrong("a; let a = 1;", 3, 1, 1)
        self.check_wrong("f(); fn f() {}", 3, 1, 1)
        self.check_wrong("if 1 { a; } let a = 1;", 3, 1, 8)
        self.check_wrong("a = 1; let a = 1;", 3, 1, 1)
        self.check_wrong("while 1 { a = 1; } let a = 1;", 3, 1, 11)

    def test_functions_see_them_all(self):
        self.check_right("fn f() { a; g(); a = 1; } let a = 1; fn g() {}")
        self.check_right("if 1 { fn f() { a; } } let a = 1;")
        self.check_right("fn () { fn () { a; }; }; let a = 1;")

    def test_other_stats_at_the_outermost_tell_no_common_name(self):
        self.check_wrong("fn f() { i; } for i in 1 to 2 {}", 3, 1, 10)
        self.check_wrong("fn f() { e; } try {} catch e {}", 3, 1, 10)
        self.check_wrong("fn f() { a; } if 1 { let a = 1; }", 3, 1, 10)
        self.check_wrong("fn f() { a; } fn g(a) {}", 3, 1, 10)
        self.check_wrong("fn f() { g; } fn (g) {};", 3, 1, 10)
        expected = image([
            function("m", "number 0, set 0, global 0, give 0, global 0, minus, drop, number 1, set 1, function 1, set 2, nothing, back",
                     1, 1),
            function("f", "global 1, drop, nothing, back", 1, 1),
        ], strings=["a"], numbers=[1, 2], modules=[("m", 0, 3)])
        self.assertEqual(read_one("let a = 1; give a; - a; let b = 2; fn f() { b; }"), expected)

    def test_functions_do_not_see_variables_told_later(self):
        self.check_wrong("if 1 { fn f() { a; } let a = 1; }", 3, 1, 17)
        self.check_wrong("fn f() { fn g() { a; } let a = 1; }", 3, 1, 19)
        self.check_wrong("fn f() { fn g() { h(); } fn h() {} }", 3, 1, 19)

    def test_a_name_holds_to_its_blocks_end(self):
        self.check_wrong("if 1 { let a = 1; } a;", 3, 1, 21)
        self.check_wrong("if 1 { let a = 1; } else { a; }", 3, 1, 28)
        self.check_wrong("while 1 { let a = 1; } a;", 3, 1, 24)
        self.check_wrong("fn f(a) {} a;", 3, 1, 12)
        self.check_wrong("fn f() { if 1 { let a = 1; } a; }", 3, 1, 30)
        self.check_wrong("if 1 { fn f() {} } f;", 3, 1, 20)
        self.check_wrong("fn f() { let a = 1; } fn g() { a; }", 3, 1, 32)
        self.check_wrong("try { let a = 1; } catch e { a; }", 3, 1, 30)

    def test_fors_and_catchs_names_hold_in_their_blocks(self):
        self.check_right("for i in 1 to 2 { i; } try {} catch e { e; }")
        self.check_wrong("for i in 1 to 2 {} i;", 3, 1, 20)
        self.check_wrong("for i in i to 2 {}", 3, 1, 10)
        self.check_wrong("for i in 1 to i {}", 3, 1, 15)
        self.check_wrong("try { e; } catch e {}", 3, 1, 7)
        self.check_wrong("try {} catch e {} e;", 3, 1, 19)

    def test_variables_may_be_assigned(self):
        self.check_right("for i in 1 to 2 { i = 3; } try {} catch e { e = 1; } fn f(a) { a = 1; f = a; }")

    def test_keys_parts_and_hosts_are_no_names_that_must_be_there(self):
        self.check_right("1.a; {a: 1}; host a(); 1.a = 2;")


class ToldTwice(ReadCase):
    def test_at_the_outermost(self):
        self.check_wrong("let a = 1; let a = 2;", 4, 1, 16)
        self.check_wrong("let a = 1;\nfn a() {}", 4, 2, 4)
        self.check_wrong("fn a() {} let a = 1;", 4, 1, 15)
        self.check_wrong("fn a() {} fn a() {}", 4, 1, 14)

    def test_in_a_block(self):
        self.check_wrong("if 1 { let a = 1; let a = 2; }", 4, 1, 23)
        self.check_wrong("while 1 { fn a() {} let a = 2; }", 4, 1, 25)
        self.check_wrong("if 1 {} else { let a = 1; fn a() {} }", 4, 1, 30)
        self.check_wrong("try { let a = 1; let a = 1; } catch e {}", 4, 1, 22)

    def test_in_a_function(self):
        self.check_wrong("fn f(a, a) {}", 4, 1, 9)
        self.check_wrong("fn (a, b, a) {};", 4, 1, 11)
        self.check_wrong("fn f(a) { let a = 1; }", 4, 1, 15)
        self.check_wrong("fn f(a) { fn a() {} }", 4, 1, 14)
        self.check_wrong("fn f() { let a = 1; let a = 1; }", 4, 1, 25)

    def test_fors_and_catchs_names_and_their_blocks(self):
        self.check_wrong("for i in 1 to 2 { let i = 1; }", 4, 1, 23)
        self.check_wrong("for i in 1 to 2 { fn i() {} }", 4, 1, 22)
        self.check_wrong("try {} catch e { let e = 1; }", 4, 1, 22)
        self.check_wrong("try {} catch e { fn e() {} }", 4, 1, 21)

    def test_in_two_blocks_is_right(self):
        self.check_right("let a = 1; if 1 { let a = 1; if 1 { let a = 1; } } else { let a = 1; } while 1 { let a = 1; }")
        self.check_right("fn f(f) { if 1 { let f = 1; } } fn g(f) {}")
        self.check_right("for i in 1 to 2 { for i in 1 to 2 { if 1 { let i = 1; } } }")
        self.check_right("try { let e = 1; } catch e { try {} catch e {} }")
        self.check_right("fn f() { fn f() { fn f() {} } }")

    def test_met_before_the_exp(self):
        self.check_wrong("let a = 1; let a = zz;", 4, 1, 16)
        self.check_wrong("fn f(a) { let a = zz; }", 4, 1, 15)
        self.check_wrong("let a = 1; fn a(b, b) { zz; }", 4, 1, 15)


class WordsWhereTheyMayNotStand(ReadCase):
    def test_break_and_continue(self):
        for word in ("break", "continue"):
            self.check_wrong(f"\n {word};", 5, 2, 2)
            self.check_wrong("if 1 { " + word + "; }", 5, 1, 8)
            self.check_wrong("fn f() { " + word + "; }", 5, 1, 10)
            self.check_wrong("while 1 { fn f() { " + word + "; } }", 5, 1, 20)
            self.check_wrong("for i in 1 to 2 { fn () { " + word + "; }; }", 5, 1, 27)
            self.check_wrong("while 1 {} " + word + ";", 5, 1, 12)
            self.check_wrong("while fn () { " + word + "; } {}", 5, 1, 15)
            self.check_wrong("try { " + word + "; } catch e {}", 5, 1, 7)
            self.check_right("while 1 { if 1 { " + word + "; } try { " + word + "; } catch e { " + word + "; } }")
            self.check_right("fn f() { for i in 1 to 2 { " + word + "; } }")
            self.check_right("while 1 { fn () { while 1 { " + word + "; } }; " + word + "; }")
            self.check_right("while 1 { while 1 {} " + word + "; }")

    def test_return(self):
        self.check_wrong("return;", 5, 1, 1)
        self.check_wrong("if 1 { return 1; }", 5, 1, 8)
        self.check_wrong("while 1 {\n return zz; }", 5, 2, 2)
        self.check_wrong("fn f() {} return f;", 5, 1, 11)
        self.check_right("fn f() { return; while 1 { return; } } fn () { return 1; };")
        self.check_right("if 1 { fn () { return; }; }")

    def test_throw_and_yield_stand_everywhere(self):
        self.check_right("throw 1; yield; fn f() { throw 1; yield; while 1 { throw 1; yield; } }")
