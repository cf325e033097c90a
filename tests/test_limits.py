"""How large functions, modules and the whole may be: places, heights, caught, names, functions, instructions, pools."""

from tests.helper import ReadCase, function, image, read_modules, read_one


def lets(count, first=0):
    return "".join(f"let a{number}=1;" for number in range(first, first + count))


def uses(count, first=0):
    return "".join(f"a{number};" for number in range(first, first + count))


class Places(ReadCase):
    def test_250_and_251_variables(self):
        code = ", ".join(f"number 0, put {number}" for number in range(250)) + ", nothing, back"
        expected = image([
            function("m", "function 1, set 0, nothing, back", 1, 1),
            function("f", code, 1, 1, places=250),
        ], numbers=[1], modules=[("m", 0, 1)])
        self.assertEqual(read_one("fn f() {" + lets(250) + "}"), expected)
        self.check_wrong("\n  fn f() {" + lets(251) + "}", 6, 2, 3)
        self.check_wrong("1 + fn () {" + lets(251) + "};", 6, 1, 5)

    def test_arguments_count(self):
        parameters = ",".join(f"p{number}" for number in range(32))
        self.check_right("fn f(" + parameters + ") {" + lets(218) + "}")
        self.check_wrong("fn f(" + parameters + ") {" + lets(219) + "}", 6, 1, 1)

    def test_a_for_takes_two_and_its_name(self):
        self.check_right("fn f() {" + lets(247) + "for i in 1 to 2 {} }")
        self.check_wrong("fn f() {" + lets(248) + "for i in 1 to 2 {} }", 6, 1, 1)

    def test_catchs_and_fns_names(self):
        self.check_right("fn f() {" + lets(249) + "try {} catch e {} }")
        self.check_wrong("fn f() {" + lets(250) + "try {} catch e {} }", 6, 1, 1)
        self.check_right("fn f() {" + lets(249) + "fn g() {} }")
        self.check_wrong("fn f() {" + lets(250) + "fn g() {} }", 6, 1, 1)

    def test_of_a_body(self):
        self.check_right("\n if 1 {" + lets(250) + "}")
        self.check_wrong("\n if 1 {" + lets(251) + "}", 6, 1, 1)

    def test_places_that_are_free_again_are_not_counted(self):
        self.check_right("fn f() { if 1 {" + lets(250) + "} else {" + lets(250) + "} }")
        self.check_right("fn f() { if 1 {" + lets(250) + "} let b = 1; }")

    def test_those_of_a_function_within_are_its_own(self):
        self.check_right("fn f() {" + lets(250) + "fn () {" + lets(250) + "}; }")


class Heights(ReadCase):
    def test_250_and_251(self):
        ones = ",".join(["1"] * 250)
        code = ", ".join(["number 0"] * 250) + ", list 250, drop, nothing, back"
        self.check_body("[" + ones + "];", code, 250, numbers=[1])
        self.check_wrong("\n 1 + [" + ones + "];", 6, 1, 1)
        self.check_wrong("\n fn f() { 1 + [" + ones + "]; }", 6, 2, 2)
        self.check_right("[" + ones + "] + 1;")

    def test_tables(self):
        self.check_right("{" + ",".join(["a:1"] * 125) + "};")
        self.check_wrong("{" + ",".join(["a:1"] * 126) + "};", 6, 1, 1)

    def test_twice_counts(self):
        # Before the last's or 249 lie there, twice makes them 251.
        ones = ",".join(["1"] * 248)
        self.check_right("[" + ones + ", 1 or 1];")
        self.check_wrong("[" + ones + ", 1, 1 or 1];", 6, 1, 1)

    def test_a_call_counts_what_is_called(self):
        nested = "[" + ",".join(["1"] * 217) + ", 1(" + ",".join(["1"] * 32) + ")];"
        self.check_right(nested)
        self.check_wrong("[" + ",".join(["1"] * 218) + ", 1(" + ",".join(["1"] * 32) + ")];", 6, 1, 1)
        self.check_right("[" + ",".join(["1"] * 218) + ", host h(" + ",".join(["1"] * 32) + ")];")
        self.check_wrong("[" + ",".join(["1"] * 219) + ", host h(" + ",".join(["1"] * 32) + ")];", 6, 1, 1)


class HeightsBehind(ReadCase):
    """What each instruction takes and puts shows in the height of what comes behind it."""

    EXPS = ("1", '"s"', "true", "nothing", "(1)", "a", "u", "1 or 2", "1 and 2", "not 1", "-1", "1 == 2", "1 != 2", "1 < 2", "1 <= 2",
            "1 > 2", "1 >= 2", "1 + 2", "1 - 2", "1 * 2", "1 / 2", "1 % 2", "1()", "1(2, 3)", "1[2]", "1.x", "[]", "[1, 2]",
            "{}", "{a: 1, b: 2}", "fn () {}", "host h()", "host h(1, 2)", "task 1()", "task 1(2, 3)", "channel(1)",
            "receive(1)", "join(1)", "len(1)", "send(1, 2)", "wait(1)", "v", "c")
    STATS = ("let b = 1;", "a = 1;", "v = 1;", "c = 1;", "fn g() {}", "fn g() { g; }", "1[2] = 3;", "1.x = 2;", "if 1 {}",
             "if 1 {} else {}", "if 1 {} else if 2 {} else {}", "while 1 {}", "while 1 { break; continue; }",
             "for i in 1 to 2 {}", "for i in 1 to 2 { fn () { i; }; }", "try {} catch e {}", "try {} catch e { fn () { e; }; }",
             "return;", "return 1;", "throw 1;", "yield;", "1;", "let b = 1; fn () { b = b; };",
             "while 1 { try { return 1; } catch e { break; } }")
    ONES = ", ".join(["1"] * 9)

    def greatest_height_of_f(self, text):
        """Of the second function: behind its name, places and catches; c is caught there."""
        before = 'let a = 1; use "z" as u; if 1 { let c = 1;\nfn f() { let v = 1; '
        answer = read_modules("m", before + text + " c; } }", "z", "")
        self.assertEqual(answer[0], 0, text)
        return self.second_function(answer)

    def second_function(self, answer):
        place = 1
        for pool in ("strings", "numbers", "hosts"):
            count = answer[place]
            place += 1
            for _ in range(count):
                place += 1 if pool == "numbers" else 1 + answer[place]
        for _ in range(answer[place]):
            place += 1 + answer[place + 1] + 2
        place += 2
        for number in range(2):
            place += 1 + answer[place] + 2
            place += 1 + answer[place]
            place += 1 + 2 * answer[place]
            height = answer[place]
            place += 2 + 4 * answer[place + 1]
        return height

    def test_exps(self):
        for exp in self.EXPS:
            self.assertEqual(self.greatest_height_of_f(f"[{exp}, {self.ONES}];"), 10, exp)
            self.assertEqual(self.greatest_height_of_f(f"[{exp}, {exp}, {self.ONES}];"), 11, exp)
            self.assertEqual(self.greatest_height_of_f(f"{exp}; {exp}; {exp}; [{self.ONES}];"), 9, exp)

    def test_stats(self):
        for stat in self.STATS:
            self.assertEqual(self.greatest_height_of_f("if 1 { " + stat + "} if 1 {" + stat + "} [" + self.ONES + "];"), 9, stat)

    def test_of_a_body(self):
        text = 'let a = 1; fn f() {} give a; a = 2; [1, 1, 1];'
        code = """number 0, set 0, function 1, set 1, global 0, give 0, number 1, set 0,
                  number 0, number 0, number 0, list 3, drop, nothing, back"""
        expected = image([function("m", code, 1, 3), function("f", "nothing, back", 1, 1)],
                         strings=["a"], numbers=[1, 2], modules=[("m", 0, 2)])
        self.assertEqual(read_one(text), expected)


class Caught(ReadCase):
    def text(self, outer, inner):
        return ("fn f() {" + lets(outer) + "\nfn g() {" + lets(inner, outer) + "\n fn h() {"
                + uses(outer + inner) + "} } }")

    def test_250_in_one_function(self):
        answer = read_one("fn f() {" + lets(250) + "fn () {" + uses(250) + "}; }")
        code = ", ".join(f"caught {number}, drop" for number in range(250)) + ", nothing, back"
        inner = function("", code, 1, 1, catches=[(0, number) for number in range(250)])
        self.assertEqual(answer[-len(inner):], inner)

    def test_250_and_251_of_two_functions(self):
        self.check_right(self.text(150, 100))
        self.check_wrong(self.text(150, 101), 6, 3, 2)
        self.check_wrong(self.text(151, 100), 6, 3, 2)

    def test_what_functions_in_it_use_counts(self):
        text = "fn f() {" + lets(150) + "fn g() {" + lets(101, 150) + "\nfn h() { fn k() {" + uses(251) + "} } } }"
        # The innermost ends first, so it's told.
        self.check_wrong(text, 6, 2, 10)
        text = ("fn f() {" + lets(150) + "fn g() {" + lets(101, 150) + "\nfn h() { fn k() {" + uses(150) + "} fn l() {"
                + uses(101, 150) + "} } } }")
        self.check_wrong(text, 6, 2, 1)

    def test_one_used_often_counts_once(self):
        self.check_right("fn f(a) { fn () {" + "a;" * 300 + "}; }")


class CommonNames(ReadCase):
    def test_250_and_251(self):
        answer = read_one(lets(250))
        self.assertEqual(answer[0:10], [0, 0, 1, 1, 0, 1, 1, 109, 0, 250])
        self.check_wrong("\n" + lets(251), 6, 1, 1)
        self.check_right(lets(249) + "fn f() {}")
        self.check_wrong(lets(250) + "fn f() {}", 6, 1, 1)

    def test_uses_are_not_counted(self):
        self.assertEqual(read_modules("m", lets(250) + 'use "z" as z; use "z" as y;', "z", "")[0], 0)

    def test_met_at_the_modules_end(self):
        self.check_wrong(lets(251) + "\nzz;", 3, 2, 1)
        self.assertEqual(read_modules("m", lets(251), "z", "zz;"), [6, 0, 1, 1])
        self.assertEqual(read_modules("m", "", "z", lets(251)), [6, 1, 1, 1])

    def test_each_module_has_its_own(self):
        self.assertEqual(read_modules("m", lets(250), "z", lets(250))[0], 0)


class Functions(ReadCase):
    def test_the_1000th_and_the_1001st(self):
        self.check_right("fn(){};" * 999)
        self.check_wrong("fn(){};" * 999 + "\n 1 + fn () {};", 6, 2, 6)
        self.check_wrong("fn(){};" * 1005, 6, 1, 999 * 7 + 1)

    def test_bodies_are_counted(self):
        self.assertEqual(read_modules("m", "fn(){};" * 500, "z", "fn(){};" * 498)[0], 0)
        self.assertEqual(read_modules("m", "fn(){};" * 500, "z", "fn(){};" * 499), [6, 1, 1, 498 * 7 + 1])

    def test_behind_its_names_4_before_anything_else_in_it(self):
        full = "fn(){};" * 998 + "fn f() {}\n"
        self.check_wrong(full + "fn f() {}", 4, 2, 4)
        self.check_wrong(full + "fn g(a, a) {}", 6, 2, 1)
        self.check_wrong(full + "fn g() { zz; }", 6, 2, 1)
        self.check_wrong(full + "zz(fn () {});", 3, 2, 1)
        self.check_wrong(full + "let f = fn () {};", 4, 2, 5)

    def test_a_body_as_the_1001st(self):
        full = "fn(){};" * 999
        self.assertEqual(read_modules("m", full, "z", ""), [6, 1, 1, 1])
        self.assertEqual(read_modules("m", full, "y", "", "z", "\n\n1;"), [6, 2, 1, 1])
        self.assertEqual(read_modules("m", full, "y", "\n zz;", "z", ""), [3, 1, 2, 2])
        self.assertEqual(read_modules("m", full, "y", "\n fn f() {}", "z", ""), [6, 1, 2, 2])

    def test_counted_as_they_begin(self):
        # The 1001st stands within the 1000th.
        self.check_wrong("fn(){};" * 998 + "\nfn f() { fn g() {} }", 6, 2, 10)


class Instructions(ReadCase):
    def test_10000_and_10001_of_a_body(self):
        answer = read_one("0;" * 4999)
        self.assertEqual(answer[0:19], [0, 0, 1, 0, 0, 1, 1, 109, 0, 0, 1, 1, 109, 0, 0, 0, 0, 1, 10000])
        self.assertEqual(answer[19:], [2, 0, 0, 17, 0, 0] * 4999 + [0, 0, 0, 14, 0, 0] + [1] * 10000)
        self.check_wrong("\n" + "0;" * 4999 + "yield;", 6, 1, 1)
        self.check_right("0;" * 4998 + "yield;yield;")

    def test_10000_and_10001_of_a_function(self):
        self.check_right("\n fn f() {" + "0;" * 4999 + "}")
        self.check_wrong("\n fn f() {" + "0;" * 4999 + "yield;}", 6, 2, 2)
        self.check_wrong("\n fn f() {" + "0;" * 4999 + "yield;} zz;", 6, 2, 2)

    def test_each_function_has_its_own(self):
        self.check_right("fn f() {" + "0;" * 4998 + "fn () {" + "0;" * 4999 + "}; }")

    def test_10000_and_10001_with_what_is_caught(self):
        # The fn is four instructions with the cell, so with 4997 pairs there are 10000.
        self.check_right("\n fn f() { fn g() { g; }" + "0;" * 4997 + "}")
        self.check_wrong("\n fn f() { fn g() { g; }" + "0;" * 4997 + "yield;}", 6, 2, 2)
        self.check_wrong("\n fn f() { fn g() { g; }" + "0;" * 4998 + "}", 6, 2, 2)
        self.check_wrong("\n if 1 { fn g() { g; }" + "0;" * 4997 + "}", 6, 1, 1)

    def test_lets_that_are_caught_are_no_more(self):
        self.check_right("fn f() { let a = 0; fn () { a; };" + "0;" * 4997 + "}")

    def test_told_only_if_nothing_else_is(self):
        long = "fn f() { fn g() { g; }" + "0;" * 4998 + "}"
        self.check_wrong(long + "\nzz;", 3, 2, 1)
        self.assertEqual(read_modules("m", long, "z", "zz;"), [3, 1, 1, 1])
        self.assertEqual(read_modules("m", long, "z", "0;" * 5000), [6, 1, 1, 1])
        self.assertEqual(read_modules("m", long, "z", lets(251)), [6, 1, 1, 1])
        self.assertEqual(read_modules("m", "1; " + long, "z", "fn(){};" * 997), [6, 1, 1, 996 * 7 + 1])
        self.assertEqual(read_modules("m", "1; " + long, "z", "fn(){};" * 996, "y", ""), [6, 0, 1, 4])

    def test_without_what_is_caught_it_is_told_at_its_end(self):
        long = "fn f() { fn g() { g; }" + "0;" * 4998 + "yield; }"
        self.check_wrong(long + "\nzz;", 6, 1, 1)

    def test_the_first_by_their_ends(self):
        inner = "fn h() { fn k() { k; }" + "0;" * 4998 + "}"
        outer = "fn f() { fn g() { g; }\n" + inner + "0;" * 4996 + "}"
        self.check_wrong(outer, 6, 2, 1)
        long = "fn f() { fn g() { g; }" + "0;" * 4998 + "}"
        self.check_wrong(" " + long + "\n" + long.replace("f()", "h()"), 6, 1, 2)
        self.assertEqual(read_modules("m", "\n " + long, "z", long), [6, 0, 2, 2])
        self.assertEqual(read_modules("m", "", "z", "\n" + long), [6, 1, 2, 1])

    def test_a_body_ends_behind_its_functions(self):
        inner = "fn h() { fn k() { k; }" + "0;" * 4998 + "}"
        body = "if 1 { fn g() { g; }" + "0;" * 4996 + "}\n" + inner
        # The body has 10002 with its cell; the function in it ends before.
        self.check_wrong(body, 6, 2, 1)


class Pools(ReadCase):
    """More than 10000 strings, numbers or hosts of the whole, which is told last of all, at the last module."""

    def lists(self, first, count, form):
        rows = []
        for start in range(first, first + count, 250):
            row = [form.replace("N", str(number)) for number in range(start, min(start + 250, first + count))]
            rows.append("[" + ",".join(row) + "];")
        return "".join(rows)

    def modules(self, count, form, last=""):
        half = count // 2
        return ("m", self.lists(0, half, form), "n", self.lists(half, count - half, form), "z", last)

    def check_pool(self, form):
        self.assertEqual(read_modules(*self.modules(10000, form))[0], 0)
        self.assertEqual(read_modules(*self.modules(10001, form)), [6, 2, 1, 1])
        self.assertEqual(read_modules(*self.modules(10001, form, "\n zz;")), [3, 2, 2, 2])

    def test_strings(self):
        self.check_pool('"N"')

    def test_numbers(self):
        self.check_pool("N")

    def test_hosts(self):
        self.check_pool("host hN()")

    def test_strings_of_parts_count_and_alike_ones_do_not(self):
        modules = self.modules(10000, '"N"', '1.x;')
        self.assertEqual(read_modules(*modules), [6, 2, 1, 1])
        modules = self.modules(10000, '"N"', '"5"; {a: 1}["77"];')
        self.assertEqual(read_modules(*modules), [6, 2, 1, 1])
        modules = self.modules(10000, '"N"', '"5"; "77"; "9999";')
        self.assertEqual(read_modules(*modules)[0], 0)

    def test_the_three_are_counted_apart(self):
        modules = self.modules(9999, '"N"', "1; 2; host h();")
        self.assertEqual(read_modules(*modules)[0], 0)


class LongTexts(ReadCase):
    def test_what_is_long_is_gone_through_by_loops(self):
        self.check_right("1" + "+1" * 4900 + ";")
        self.check_right("1" + "()" * 9000 + ";")
        self.check_right("if 1 {}" + "else if 1 {}" * 2000)
        self.check_right("1" + " or 1" * 1900 + ";")
        self.check_right(";".join(["yield"] * 9000) + ";")
        self.check_wrong("fn f() {}" + "#\n" * 9000 + "zz;", 3, 9001, 1)
        self.check_wrong("-" * 60000, 6, 1, 41)
        self.check_wrong("[" * 60000, 6, 1, 41)
