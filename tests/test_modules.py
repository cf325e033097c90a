"""Several modules: use, give, and the whole image of modules that use one another."""

from tests.helper import ReadCase, function, image, read_modules


class Uses(ReadCase):
    def check_wrong_in(self, modules, kind, module, line, column):
        self.assertEqual(read_modules(*modules), [kind, module, line, column], modules)

    def test_two_modules(self):
        first = 'use "two" as t;\nlet a = t.x;\nfn f() { return t; }\ngive f;\n'
        second = "let x = 1;\ngive x;\n2;"
        expected = image([
            function("one", "module 1, string 0, at, set 0, function 1, set 1, global 1, give 1, nothing, back",
                     "2x4 3x2 4x2 5x2", 2),
            function("f", "module 1, back, nothing, back", 3, 1),
            function("two", "number 0, set 0, global 0, give 0, number 1, drop, nothing, back", "1x2 2x2 3x4", 1),
        ], strings=["x", "f"], numbers=[1, 2], modules=[("one", 0, 2), ("two", 2, 1)])
        self.assertEqual(read_modules("one", first, "two", second), expected)

    def test_module_told_number_by_number(self):
        answer = [0, 0, 0, 0, 2, 1, 97, 0, 0, 1, 98, 1, 0, 2]
        answer += [1, 97, 0, 0, 0, 0, 1, 4, 39, 1, 0, 17, 0, 0, 0, 0, 0, 14, 0, 0, 1, 1, 1, 1]
        answer += [1, 98, 0, 0, 0, 0, 1, 2, 0, 0, 0, 14, 0, 0, 1, 1]
        self.assertEqual(read_modules("a", 'use "b" as x; x;', "b", ""), answer)

    def test_three_modules_on_two_ways(self):
        base = "let one = 1; give one;"
        middle = 'use "base" as b; let two = b.one; give two;'
        top = 'use "middle" as m; use "base" as b; m.two + b.one;'
        expected = image([
            function("base", "number 0, set 0, global 0, give 0, nothing, back", 1, 1),
            function("middle", "module 0, string 0, at, set 0, global 0, give 1, nothing, back", 1, 2),
            function("top", "module 1, string 1, at, module 0, string 0, at, add, drop, nothing, back", 1, 3),
        ], strings=["one", "two"], numbers=[1], modules=[("base", 0, 1), ("middle", 1, 1), ("top", 2, 0)])
        self.assertEqual(read_modules("base", base, "middle", middle, "top", top), expected)

    def test_uses_are_no_common_names(self):
        text = 'let a = 1; use "z" as u; let b = u; fn f() { v; b = u; } use "z" as v;'
        expected = image([
            function("m", "number 0, set 0, module 1, set 1, function 1, set 2, nothing, back", 1, 1),
            function("f", "module 1, drop, module 1, set 1, nothing, back", 1, 1),
            function("z", "nothing, back", 1, 1),
        ], numbers=[1], modules=[("m", 0, 3), ("z", 2, 0)])
        self.assertEqual(read_modules("m", text, "z", ""), expected)

    def test_a_uses_name_is_no_variable_that_is_caught(self):
        text = 'use "z" as u; fn f() { fn g() { u.x = u(1); } }'
        expected = image([
            function("m", "function 1, set 0, nothing, back", 1, 1),
            function("f", "function 2, put 0, nothing, back", 1, 1, places=1),
            function("g", "module 1, string 0, module 1, number 0, call 1, into, nothing, back", 1, 4),
            function("z", "nothing, back", 1, 1),
        ], strings=["x"], numbers=[1], modules=[("m", 0, 1), ("z", 3, 0)])
        self.assertEqual(read_modules("m", text, "z", ""), expected)

    def test_uses_name_hidden_and_then_assigned(self):
        text = 'use "z" as u; if 1 { let u = 2; u = 3; }'
        expected = image([
            function("m", "number 0, unless 6, number 1, put 0, number 2, put 0, nothing, back", 1, 1, places=1),
            function("z", "nothing, back", 1, 1),
        ], numbers=[1, 2, 3], modules=[("m", 0, 0), ("z", 1, 0)])
        self.assertEqual(read_modules("m", text, "z", ""), expected)

    def test_the_string_stands_for_the_name(self):
        self.assertEqual(read_modules("m", 'use "\\x7a\\"" as u;', 'z"', "")[0], 0)
        self.check_wrong_in(["m", 'use "\\n" as u;', "n", ""], 7, 0, 1, 5)

    def test_names_of_modules_may_be_any_that_are_seen(self):
        self.assertEqual(read_modules("m", 'use "!~ " as u;', "!~", ""), [7, 0, 1, 5])
        self.assertEqual(read_modules("m", 'use "!~" as u;', "!~", "")[0], 0)
        self.assertEqual(read_modules("if", "", "m", 'use "if" as u;')[0], 0)

    def test_the_same_module_twice_under_two_names(self):
        self.assertEqual(read_modules("m", 'use "z" as a; use "z" as b;', "z", "")[0], 0)

    def test_no_such_module(self):
        self.check_wrong_in(["m", 'let a = 1;\nuse  "z" as u;'], 7, 0, 2, 6)
        self.check_wrong_in(["m", 'use "" as u;'], 7, 0, 1, 5)
        self.check_wrong_in(["m", "", "n", 'use "M" as u;'], 7, 1, 1, 5)

    def test_a_module_uses_itself(self):
        self.check_wrong_in(["m", 'use "m" as u;'], 8, 0, 1, 5)
        self.check_wrong_in(["a", "", "m", '\n use "m" as u;'], 8, 1, 2, 6)

    def test_two_modules_use_one_another(self):
        self.check_wrong_in(["a", 'use "b" as b;', "b", 'use "a" as a;'], 8, 0, 1, 5)

    def test_a_ring_of_three(self):
        ring = ["a", 'use "b" as x;', "b", '1; use "c" as x;', "c", '2; 3; use "a" as x;']
        self.check_wrong_in(ring, 8, 0, 1, 5)

    def test_a_ring_that_the_first_only_leads_to(self):
        self.check_wrong_in(["a", 'use "b" as x;', "b", '\nuse "c" as x;', "c", 'use "b" as x;'], 8, 1, 2, 5)

    def test_the_use_that_closes_the_ring_is_told(self):
        modules = ["a", 'use "c" as x; use "b" as y;', "b", 'use "a" as x;', "c", ""]
        self.check_wrong_in(modules, 8, 0, 1, 19)

    def test_a_name_of_a_use_told_twice(self):
        self.check_wrong_in(["m", 'use "z" as a; use "z" as a;', "z", ""], 4, 0, 1, 26)
        self.check_wrong_in(["m", 'let a = 1; use "z" as a;', "z", ""], 4, 0, 1, 23)
        self.check_wrong_in(["m", 'use "z" as a; let a = 1;', "z", ""], 4, 0, 1, 19)
        self.check_wrong_in(["m", 'use "z" as a; fn a() {}', "z", ""], 4, 0, 1, 18)

    def test_module_is_met_before_the_name(self):
        self.check_wrong_in(["m", 'let a = 1; use "z" as a;'], 7, 0, 1, 16)
        self.check_wrong_in(["m", 'let a = 1; use "m" as a;'], 8, 0, 1, 16)

    def test_a_uses_name_assigned(self):
        self.check_wrong_in(["m", 'use "z" as a;\n a = 1;', "z", ""], 5, 0, 2, 2)
        self.check_wrong_in(["m", 'fn f() { a = 1; } use "z" as a;', "z", ""], 5, 0, 1, 10)
        self.check_wrong_in(["m", 'use "z" as a; fn f() { fn () { a = b; }; }', "z", ""], 5, 0, 1, 32)

    def test_a_uses_name_that_is_told_twice_assigned_in_a_function(self):
        self.check_wrong_in(["m", 'let a = 1; fn f() { a = 2; } use "z" as a;', "z", ""], 5, 0, 1, 21)
        self.check_wrong_in(["m", 'fn f() { a = 2; } let a = 1; use "z" as a;', "z", ""], 5, 0, 1, 10)
        self.check_wrong_in(["m", 'use "z" as a; fn f() { a = 2; } let a = 1;', "z", ""], 5, 0, 1, 24)
        self.check_wrong_in(["m", 'fn f() { f = 1; } use "z" as f;', "z", ""], 5, 0, 1, 10)
        self.check_wrong_in(["m", 'let a = fn () { a = 1; }; use "z" as a;', "z", ""], 5, 0, 1, 17)
        self.check_wrong_in(["m", 'if 1 { fn f() { fn () { a = zz; }; } }\nlet a = 1; use "z" as a;', "z", ""], 5, 0, 1, 25)
        self.check_wrong_in(["z", "", "m", 'let a = 1;\nfn f() {\n a = 2; } use "z" as a;'], 5, 1, 3, 2)

    def test_before_what_is_wrong_with_the_use(self):
        self.check_wrong_in(["m", 'fn d() { d = 1; } use "m" as d;'], 5, 0, 1, 10)
        self.check_wrong_in(["m", 'fn d() { d = 1; } use "q" as d;'], 5, 0, 1, 10)
        self.check_wrong_in(["m", 'let a = 1; let a = 2; fn f() { a = 1; } use "z" as a;', "z", ""], 4, 0, 1, 16)

    def test_a_name_told_twice_that_is_not_assigned_in_a_function(self):
        self.check_wrong_in(["m", 'let a = 1; fn f() { a; } use "z" as a;', "z", ""], 4, 0, 1, 37)
        self.check_wrong_in(["m", 'let a = 1; fn f() { a.x = a[a]; } use "z" as a;', "z", ""], 4, 0, 1, 46)
        self.check_wrong_in(["m", 'let a = 1; a = 2; use "z" as a;', "z", ""], 4, 0, 1, 30)
        self.check_wrong_in(["m", 'let a = 1; if 1 { a = 2; } use "z" as a;', "z", ""], 4, 0, 1, 39)
        self.check_wrong_in(["m", 'fn a() {} give a; use "z" as a;', "z", ""], 4, 0, 1, 30)
        self.check_wrong_in(["m", 'let a = 1; fn f(a) { a = 2; } use "z" as a;', "z", ""], 4, 0, 1, 42)
        self.check_wrong_in(["m", 'let a = 1; if 1 { let a = 1; fn () { a = 2; }; } use "z" as a;', "z", ""], 4, 0, 1, 61)

    def test_a_use_in_a_block_tells_no_name_of_the_module(self):
        self.check_wrong_in(["m", 'let a = 1; fn f() { a = 2; } if 1 { use "z" as a; }', "z", ""], 5, 0, 1, 37)

    def test_a_uses_name_given(self):
        self.check_wrong_in(["m", 'use "z" as a; give a;', "z", ""], 3, 0, 1, 20)

    def test_use_elsewhere_than_at_the_outermost(self):
        self.check_wrong_in(["m", 'if 1 { use "z" as a; }', "z", ""], 5, 0, 1, 8)
        self.check_wrong_in(["m", 'fn f() { use "q" as a; }', "z", ""], 5, 0, 1, 10)
        self.check_wrong_in(["m", 'try {} catch e { use "z" as a; }', "z", ""], 5, 0, 1, 18)
        self.check_wrong_in(["m", 'for i in 1 to 2 { use "z" as a; }', "z", ""], 5, 0, 1, 19)

    def test_a_uses_name_before_it_is_told(self):
        self.check_wrong_in(["m", 'a; use "z" as a;', "z", ""], 3, 0, 1, 1)
        self.check_wrong_in(["m", 'if 1 { a; } use "z" as a;', "z", ""], 3, 0, 1, 8)

    def test_names_of_other_modules_are_not_there(self):
        self.check_wrong_in(["m", "let a = 1;", "n", "a;"], 3, 1, 1, 1)


class Gives(ReadCase):
    def test_give(self):
        code = "number 0, set 0, number 0, set 1, global 1, give 0, global 0, give 1, nothing, back"
        self.check_body("let a = 1; let b = 1; give b; give a;", code, 1, commons=2, numbers=[1], strings=["b", "a"])

    def test_give_twice(self):
        self.check_wrong("let a = 1; give a; give a;", 4, 1, 25)

    def test_give_what_is_not_there(self):
        self.check_wrong("give a;", 3, 1, 6)
        self.check_wrong("give a; let a = 1;", 3, 1, 6)
        self.check_wrong("give f; fn f() {}", 3, 1, 6)

    def test_give_elsewhere_than_at_the_outermost(self):
        self.check_wrong("let a = 1; if a { give a; }", 5, 1, 19)
        self.check_wrong("fn f() { give f; }", 5, 1, 10)
        self.check_wrong("fn f() {\n give zz; }", 5, 2, 2)
        self.check_wrong("let a = 1; while a { give a; }", 5, 1, 22)

    def test_a_functions_name_is_given(self):
        self.check_right("fn f() {} give f;")
