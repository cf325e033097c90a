"""What can't stand where it does (2), what may stand left of = and behind task (5), long lists and depth (6)."""

from tests.helper import ReadCase, read_one

OPENERS = {
    "block": ("if 1 {", "}", 6),
    "group": ("(", ")", 1),
    "call": ("f(", ")", 2),
    "index": ("f[", "]", 2),
    "list": ("[", "]", 1),
    "table": ("{a:", "}", 1),
    "host": ("host h(", ")", 7),
    "channel": ("channel(", ")", 8),
    "receive": ("receive(", ")", 8),
    "join": ("join(", ")", 5),
    "wait": ("wait(", ")", 5),
    "len": ("len(", ")", 4),
    "send first": ("send(", ", 1)", 5),
    "send last": ("send(1, ", ")", 5),
    "not": ("not ", "", 1),
    "minus": ("- ", "", 1),
}


class Misplaced(ReadCase):
    def test_stats(self):
        for text, column in (
            ("let 1 = 1;", 5), ("let a 1;", 7), ("let a = ;", 9), ("let a = 1", 10), ("let a = 1 2;", 11),
            ("let a;", 6), ("let a == 1;", 7), ("let = 1;", 5),
            ("fn f {}", 6), ("fn f(1) {}", 6), ("fn f(a b) {}", 8), ("fn f(a,) {}", 8), ("fn f(,a) {}", 6),
            ("fn f() 1;", 8), ("fn f();", 7), ("fn f() {", 9), ("fn 1() {}", 4), ("fn {};", 4), ("fn () {}", 9),
            ("fn f(a", 7), ("fn f(a.b) {}", 7), ('fn "f"() {}', 4),
            ("if {}", 6), ("if 1 2", 6), ("if 1;", 5), ("if 1 {} else 2", 14), ("if 1 {} else;", 13), ("else {}", 1),
            ("if 1 {} else {} else {}", 17), ("if 1 {} else if {}", 19), ("if 1 {} else while 1 {}", 14),
            ("if 1 {", 7), ("if 1 {};", 8), ("if (1 {}", 7), ("if 1 {} else if 1 {} else 1", 27),
            ("while {}", 9), ("while 1;", 8), ("while {} {}; ", 12), ("while ; {}", 7),
            ("for 1 in 1 to 2 {}", 5), ("for i to 2 {}", 7), ("for i in 1 {}", 12), ("for i in 1 to {}", 17),
            ("for i in to 2 {}", 10), ("for i in 1 to 2;", 16), ("for (i in 1 to 2) {}", 5), ("for in 1 to 2 {}", 5),
            ("break 1;", 7), ("break", 6), ("continue 1;", 10), ("continue}", 9), ("return 1 2;", 10), ("return", 7),
            ("return }", 8), ("return = 1;", 8), ("throw;", 6), ("throw 1", 8), ("throw 1 1;", 9), ("yield 1;", 7), ("yield", 6),
            ("try 1;", 5), ("try {}", 7), ("try {} catch {}", 14), ("try {} catch 1 {}", 14), ("try {} catch e;", 15),
            ("try {} e {}", 8), ("catch e {}", 1), ("try {} catch e", 15),
            ("use a as b;", 5), ('use "a" b;', 9), ('use "a" as "b";', 12), ('use "a" as b', 13), ('use "a";', 8),
            ('use "a" as if;', 12), ("use 1 as b;", 5), ("use", 4),
            ("give 1;", 6), ("give;", 5), ("give a", 7), ("give a b;", 8), ("give a, b;", 7), ('give "a";', 6),
            (";", 1), ("}", 1), (")", 1), ("]", 1), (",", 1), (":", 1), (".", 1), ("=", 1), ("+ 1;", 1), ("1;;", 3),
            ("1", 2), ("1 2;", 3), ("1 }", 3), ("in;", 1), ("to;", 1), ("as;", 1), ("and;", 1),
            ("or 1;", 1), ("let let = 1;", 5), ("{} 1;", 4), ("{1;}", 2),
        ):
            self.check_wrong(text, 2, 1, column)

    def test_exps(self):
        for text, column in (
            ("1 +;", 4), ("1 + ;", 5), ("1 + + 2;", 5), ("1 * / 2;", 5), ("1 or;", 5), ("1 or or 2;", 6), ("1 and;", 6),
            ("not;", 4), ("not = 1;", 5), ("-;", 2), ("- not 1;", 3), ("1 + not 2;", 5), ("1 * not 2;", 5),
            ("1 == not 2;", 6), ("1 < 2 < 3;", 7), ("1 == 2 == 3;", 8), ("1 < 2 == 3;", 7), ("not 1 == 2 == 3;", 12),
            ("1 == 2 + 3 != 4;", 12), ("1 and 2 < 3 >= 4;", 13), ("1 == 2 1;", 8), ("(1;", 3), ("(1 2);", 4), ("();", 2), ("(1, 2);", 3),
            ("1(;", 3), ("1(2;", 4), ("1(2 3);", 5), ("1(,);", 3), ("1(2,);", 5), ("1(2,,3);", 5), ("1(];", 3),
            ("1[];", 3), ("1[2;", 4), ("1[2, 3];", 4), ("1.;", 3), ("1.2;", 3), ('1."a";', 3), ("1..a;", 3), ("1.(a);", 3),
            ("[1;", 3), ("[1,];", 4), ("[,];", 2), ("[1 2];", 4), ("[1, 2};", 6), ("[1: 2];", 3),
            ("{a};", 3), ("{a: };", 5), ("{a: 1,};", 7), ("{, a: 1};", 2), ("{1: 2};", 2), ("{a 1};", 4), ("{[a: 1]};", 4),
            ("{[]: 1};", 3), ("{[1] 2};", 6), ("{a: 1; };", 6), ("{a: 1 b: 2};", 7), ("{(a): 1};", 2), ("{true: 1};", 2),
            ("{-a: 1};", 2), ("{a = 1};", 4),
            ("fn;", 3), ("fn (;", 5), ("fn ();", 6), ("(fn f() {});", 5), ("fn (a, a b) {};", 10), ("fn (1) {};", 5),
            ("fn (a = 1) {};", 7), ("let a = fn b() {};", 12), ("fn () { };;", 11), ("fn ((a)) {};", 5),
            ("host;", 5), ("host (1);", 6), ("host h;", 7), ("host h[1];", 7), ("host h(1;", 9), ("host 1();", 6), ("host len();", 6),
            ('host "h"();', 6), ("host h.i();", 7),
            ("task;", 5), ("task not 1();", 6), ("task -1();", 6), ("task + 1();", 6),
            ("channel;", 8), ("channel 1;", 9), ("channel();", 9), ("channel(1, 2);", 10), ("receive();", 9), ("join();", 6),
            ("wait();", 6), ("len();", 5), ("len 1;", 5), ("len(1, 2);", 6), ("len[1];", 4), ("wait(1,);", 7),
            ("send();", 6), ("send(1);", 7), ("send(1, );", 9), ("send(1, 2, 3);", 10), ("send 1, 2;", 6), ("send(1 2);", 8),
            ("1 % ;", 5), ("1 : 2;", 3), ("true false;", 6), ("nothing nothing;", 9),
        ):
            self.check_wrong(text, 2, 1, column)

    def test_no_test_behind_a_test(self):
        signs = ("==", "!=", "<", "<=", ">", ">=")
        for first in signs:
            for second in signs:
                self.check_wrong(f"1 {first} 2 {second} 3;", 2, 1, 6 + len(first))
                self.check_wrong(f"not 1 {first} 2 + 3 {second} 3;", 2, 1, 14 + len(first))
                self.check_right(f"1 {first} (2 {second} 3);")
                self.check_right(f"1 {first} 2 and 3 {second} 4 or 5 {first} 6;")

    def test_a_text_that_ends_in_the_middle_of_a_stat(self):
        whole = 'fn f(a, b) { for i in a to [b][0] { try { a.x = {k: i}; } catch e { if e { return; } else { throw -e; } } } }'
        for place in [place for place, byte in enumerate(whole) if byte == " "]:
            part = whole[:place]
            self.assertEqual(read_one(part), [2, 0, 1, place + 1], part)

    def test_place_on_a_later_line(self):
        self.check_wrong("let a = 1;\n\n   let b 2;", 2, 3, 10)

    def test_a_token_that_can_not_be_is_told_as_such(self):
        self.check_wrong("let @", 1, 1, 5)
        self.check_wrong("let a @", 1, 1, 7)
        self.check_wrong("let a = @", 1, 1, 9)
        self.check_wrong("let a = 1 @", 1, 1, 11)
        self.check_wrong("if 1 { @", 1, 1, 8)
        self.check_wrong("f(1, @", 1, 1, 6)
        self.check_wrong("fn @", 1, 1, 4)


class LeftOfEquals(ReadCase):
    def test_what_may_stand_there(self):
        for left in ("a", "a[1]", "a.b", "a().b", "a.b[1]", "(a).b", "(a + 1)[2]", "[1][0]", '"s".x', "1[1]",
                     "host h().x", "receive(a)[1]", "{k: 1}.k", "fn () {}.x", "nothing.x"):
            self.check_right(f"let a = 1; {left} = 2;")

    def test_what_may_not(self):
        for left in ("1", '"s"', "true", "nothing", "(a)", "(a.b)", "((a))", "-a", "-a.b", "not a", "not a.b", "a + b", "a + b.c",
                     "a == b", "a or b", "a and b.c", "a()", "a.b()", "a[1](2)", "[]", "[a]", "{}", "host h()",
                     "fn () {}", "task a()", "len(a)", "send(a, b)", "a.b + 1", "a.b == a.b", "wait(a)"):
            self.check_wrong(f"{left} = 2;", 5, 1, len(left) + 2)

    def test_told_before_what_stands_behind(self):
        self.check_wrong("1 = @", 5, 1, 3)
        self.check_wrong("1 = ;", 5, 1, 3)
        self.check_wrong("\n\n 1\n  =", 5, 4, 3)

    def test_one_equals_only(self):
        self.check_wrong("let a = 1; a = a = 2;", 2, 1, 18)
        self.check_wrong("let a = b = 2;", 2, 1, 11)
        self.check_wrong("(a = 2);", 2, 1, 4)
        self.check_wrong("return a = 2;", 2, 1, 10)


class TaskPosts(ReadCase):
    def test_what_ends_with_parentheses(self):
        self.check_right("let f = 1; task f(); task f.g(1); task f[1](); task f()(); task (f)(); task fn () {}();")
        self.check_right("let f = 1; task host f()(); task len(f)(1); task (task f())(); -task f(); not task f();")

    def test_what_does_not(self):
        for post in ("f", "f.g", "f().g", "f[1]", "f()[1]", "1", "fn () {}", "(f())", "host f()", "len(f)", "send(f, f)", "[f()]",
                     "{}", "wait(f)", "nothing", "(f)"):
            self.check_wrong(f" task {post};", 5, 1, 2)

    def test_a_task_of_a_task(self):
        self.check_wrong("task task f();", 5, 1, 1)
        self.check_wrong("task task f;", 5, 1, 6)

    def test_told_before_what_is_behind(self):
        self.check_wrong("task f @", 5, 1, 1)
        self.check_wrong("task f", 5, 1, 1)
        self.check_wrong("task f)", 5, 1, 1)
        self.check_wrong("task f = 1;", 5, 1, 1)
        self.check_wrong("1 + task f + @", 5, 1, 5)
        self.check_wrong("task f.g !", 5, 1, 1)

    def test_what_is_wrong_in_the_post_is_met_first(self):
        self.check_wrong("task f[@", 1, 1, 8)
        self.check_wrong("task f[;", 2, 1, 8)
        self.check_wrong("task f.1;", 2, 1, 8)


class LongLists(ReadCase):
    def listed(self, count):
        return ",".join(["1"] * count)

    def test_arguments(self):
        for begin in ("f(", "host f(", "task f(", "f.g(", "fn () {}("):
            self.check_right("let f = 1; " + begin + self.listed(32) + ");")
            text = begin + self.listed(33) + ");"
            self.check_wrong(text, 6, 1, len(begin) + 64 + 1)

    def test_parameters(self):
        names = [f"a{number}" for number in range(33)]
        self.check_right("fn f(" + ",".join(names[:32]) + ") {}")
        self.check_right("fn (" + ",".join(names[:32]) + ") {};")
        before = "fn f(" + ",".join(names[:32]) + ","
        self.check_wrong(before + "a32) {}", 6, 1, len(before) + 1)
        before = "fn (" + ",".join(names[:32]) + ",\n\n"
        self.check_wrong(before + " a32) {};", 6, 3, 2)

    def test_list(self):
        self.check_right("[" + self.listed(250) + "];")
        self.check_wrong("[" + self.listed(251) + "];", 6, 1, 502)

    def test_table(self):
        self.check_right("let f = {" + ",".join(["a:1"] * 125) + "};")
        self.check_wrong("{" + ",".join(["a:1"] * 251) + "};", 6, 1, 1002)

    def test_table_of_250(self):
        # The keys and values of 250 pairs would be 500 high, so the limit of the list shows in what is told.
        self.check_wrong("{" + ",".join(["a:1"] * 250) + "};", 6, 1, 1)
        self.check_wrong("{" + ",".join(["a:1"] * 250) + "; ", 2, 1, 1001)
        self.check_wrong("\n{" + ",".join(["a:1"] * 250) + ",", 6, 2, 1002)

    def test_whatever_stands_behind_the_comma(self):
        for behind in (")", "@", "", ";", ",", '"', "1a", "not"):
            text = "f(" + self.listed(32) + ", " + behind
            self.check_wrong(text, 6, 1, 68)
            text = "[" + self.listed(250) + ", " + behind
            self.check_wrong(text, 6, 1, 503)

    def test_lists_within_lists_are_counted_alone(self):
        inner = "[" + self.listed(30) + "]"
        self.check_right("[" + ",".join([inner] * 32) + "];")
        self.check_right("let f = 1; f(" + ",".join(["f(" + self.listed(32) + ")"] * 32) + ");")


class Depth(ReadCase):
    def test_40_and_41_of_each(self):
        for begin, end, column in OPENERS.values():
            inside = "" if end == "}" and "{a" not in begin else "1"
            last = "" if inside == "" else ";"
            self.check_right("let f = 1;\n" + begin * 40 + inside + end * 40 + last)
            text = "let f = 1;\n" + begin * 41 + inside + end * 41 + last
            self.check_wrong(text, 6, 2, 40 * len(begin) + column)

    def test_blocks_of_each_stat(self):
        deep = "if 1 {" * 39
        for stat in ("while 1 {} ", "for i in 1 to 2 {} ", "try {} catch e {} ", "fn f() {} ", "fn () {}; ", "if 1 {} else {} "):
            self.check_right(deep + stat + "}" * 39)
            text = deep + "if 1 {" + stat + "}" * 40
            self.check_wrong(text, 6, 1, 40 * 6 + stat.index("{") + 1)

    def test_functions(self):
        self.check_right("fn(){" * 40 + "};" * 40)
        self.check_wrong("fn(){" * 41 + "};" * 41, 6, 1, 205)
        self.check_right("fn f(){" * 40 + "}" * 40)
        self.check_wrong("fn f(){" * 41 + "}" * 41, 6, 1, 287)
        self.check_right("fn f(){" + "return fn(a){" * 39 + "};" * 39 + "}")
        self.check_wrong("fn f(){" + "return fn(a){" * 40 + "};" * 40 + "}", 6, 1, 7 + 13 * 40)

    def test_each_kind_as_the_41st(self):
        deep = "(" * 40
        for begin, column in (("(1)", 1), ("[1]", 1), ("[]", 1), ("{}", 1), ("f()", 2), ("f[1]", 2), ("not 1", 1), ("-1", 1),
                              ("task f()", 1), ("fn () {}", 7), ("host h()", 7), ("len(1)", 4), ("send(1, 2)", 5), ("channel(1)", 8)):
            self.check_wrong(deep + begin, 6, 1, 40 + column)
        for begin in ("1", '"s"', "f", "f.g", "1 + 2 * 3", "1 or 2", "true", "nothing"):
            self.check_right("let f = 1;" + deep + begin + ")" * 40 + ";")

    def test_each_kind_as_the_40th(self):
        deep = "(" * 39
        for inner in ("(1)", "[1]", "[]", "{}", "f()", "f[1]", "not 1", "-1", "fn () {}", "host h()", "len(1)", "send(1, 2)"):
            self.check_right("let f = 1;" + deep + inner + ")" * 39 + ";")

    def test_task(self):
        self.check_right("let f = 1;" + "(" * 38 + "task f()" + ")" * 38 + ";")
        self.check_wrong("(" * 39 + "task f()", 6, 1, 46)
        self.check_wrong("(" * 40 + "task f()", 6, 1, 41)
        text = "task (" * 20
        self.check_right("let f = 1;" + text + "f" + ")()" * 20 + ";")
        self.check_wrong("let f = 1;\n" + text + "task f()", 6, 2, 121)

    def test_keys(self):
        self.check_right("{[" * 20 + "1" + "]: 1}" * 20 + ";")
        self.check_wrong("{[" * 20 + "{", 6, 1, 41)
        self.check_wrong("(" * 39 + "{[1]: 2}", 6, 1, 41)

    def test_mixed(self):
        stats = "if 1 { while [1] { fn () { return not - ( [ {a: f(f[1])}]); }; } }"
        self.check_right("let f = 1;" + stats)
        nested = "1"
        for _ in range(4):
            # Ten of them are open at once in each round.
            nested = "not - ( [ {a: f(f[len(task f(" + nested + "))])}])"
        self.check_right("let f = 1;" + nested + ";")
        self.check_wrong("let f = 1;\n" + nested.replace("1", "(1)") + ";", 6, 2, nested.index("1") + 1)

    def test_what_is_closed_counts_no_more(self):
        self.check_right("let f = 1;" + "f((1))[1];" * 50 + "not 1 + -2 * -3;" * 20 + "if 1 {} else {}" * 50)
        self.check_right("let f = 1; f" + "(1)[1]" * 100 + ";")
        self.check_right("(" * 39 + "(1) + (2) * [3][4]" + ")" * 39 + ";")

    def test_what_is_closed_takes_no_more_off_than_it_put_on(self):
        for begin, end, column in OPENERS.values():
            inside = "" if end == "}" and "{a" not in begin else "1"
            last = "" if inside == "" else ";"
            closed = (begin + inside + end + last) * 3
            text = "let f = 1;\n" + closed + begin * 41 + inside + end * 41 + last
            self.check_wrong(text, 6, 2, len(closed) + 40 * len(begin) + column)
        self.check_wrong("task f(); task f();\n" + "(" * 41, 6, 2, 41)
        self.check_wrong("[-1, not 2, task f(), -3, " + "(" * 40, 6, 1, 66)
        self.check_wrong("fn () {}; fn f() {} fn (a) { 1; };\n" + "(" * 41, 6, 2, 41)

    def test_an_if_behind_else_is_no_deeper(self):
        self.check_right("if 1 {}" + " else if 1 {}" * 200)
        self.check_right("if 1 {" * 39 + "if 1 {}" + " else if 1 {}" * 100 + " else {}" + "}" * 39)

    def test_long_joins_are_no_deeper(self):
        self.check_right("1" + " + 1" * 1900 + ";")
        self.check_right("1" + " or 1" * 900 + ";")
        self.check_right("1" + " and 1" * 900 + ";")
        self.check_right("1" + ".x" * 3000 + ";")

    def test_too_deep_is_met_before_what_is_in_it(self):
        self.check_wrong("(" * 41 + "@", 6, 1, 41)
        self.check_wrong("(" * 40 + "@", 1, 1, 41)
        self.check_wrong("not " * 41, 6, 1, 161)
        self.check_wrong("not " * 40, 2, 1, 161)

    def test_parameters_in_parentheses_are_no_depth(self):
        self.check_right("if 1 {" * 39 + "fn f(a) {}" + "}" * 39)
        self.check_wrong("if 1 {" * 40 + "fn f(a) {}", 6, 1, 249)
