"""Each stat, with the whole of what it becomes: instructions, lines, places, height."""

from tests.helper import ReadCase, function, image, read_one


class Plain(ReadCase):
    def test_empty_module(self):
        self.assertEqual(read_one(""), [0, 0, 0, 0, 1, 1, 109, 0, 0, 1, 1, 109, 0, 0, 0, 0, 1, 2, 0, 0, 0, 14, 0, 0, 1, 1])
        self.check_body("", "nothing, back", 1)
        self.check_body("\n\n", "nothing, back", 1, lines=3)
        self.check_body("# a remark", "nothing, back", 1)

    def test_let_common(self):
        code = "number 0, set 0, number 1, set 1, nothing, back"
        self.check_body("let a = 1;\nlet b = 2;\n", code, 1, lines="1x2 2x2 3x2", commons=2, numbers=[1, 2])

    def test_let_variable(self):
        code = "truth 1, unless 6, number 0, put 0, get 0, put 1, nothing, back"
        text = "if true {\n let a = 1;\n let b = a;\n}"
        self.check_body(text, code, 1, lines="1x2 2x2 3x2 4x2", places=2, numbers=[1])

    def test_fn_common(self):
        expected = image([
            function("m", "function 1, set 0, nothing, back", "1x2 3x2", 1),
            function("f", "get 0, back, nothing, back", "2x2 3x2", 1, arguments=1, places=1),
        ], modules=[("m", 0, 1)])
        self.assertEqual(read_one("fn f(a) {\n return a;\n}"), expected)

    def test_fn_variable(self):
        expected = image([
            function("m", "truth 1, unless 4, function 1, put 0, nothing, back", "1x2 2x2 3x2", 1, places=1),
            function("f", "nothing, back", 2, 1),
        ])
        self.assertEqual(read_one("if true {\n fn f() {}\n}"), expected)

    def test_fn_variable_that_is_a_cell(self):
        body = "truth 1, unless 8, nothing, cell 0, function 1, hold 0, held 0, drop, nothing, back"
        expected = image([
            function("m", body, "1x2 2x4 3x2 4x2", 1, places=1),
            function("f", "caught 0, call 0, back, nothing, back", 2, 1, catches=[(0, 0)]),
        ])
        self.assertEqual(read_one("if true {\n fn f() { return f(); }\n f;\n}"), expected)

    def test_assign_common(self):
        code = "number 0, set 0, number 1, set 0, nothing, back"
        self.check_body("let a = 1; a = 2;", code, 1, commons=1, numbers=[1, 2])

    def test_assign_variable(self):
        code = "truth 1, unless 6, number 0, put 0, number 1, put 0, nothing, back"
        self.check_body("if true { let a = 1; a = 2; }", code, 1, places=1, numbers=[1, 2])

    def test_assign_cell_and_caught(self):
        body = "truth 1, unless 8, number 0, cell 0, number 1, hold 0, function 1, drop, nothing, back"
        expected = image([
            function("m", body, 1, 1, places=1),
            function("", "number 2, catch 0, nothing, back", 1, 1, catches=[(0, 0)]),
        ], numbers=[1, 2, 3])
        self.assertEqual(read_one("if true { let a = 1; a = 2; fn () { a = 3; }; }"), expected)

    def test_assign_part(self):
        self.check_body("1[2] = 3;", "number 0, number 1, number 2, into, nothing, back", 3, numbers=[1, 2, 3])
        code = "number 0, string 0, number 1, into, nothing, back"
        self.check_body("1.x = 2;", code, 3, numbers=[1, 2], strings=["x"])
        code = "number 0, call 0, string 0, at, number 1, number 2, into, nothing, back"
        self.check_body("1().x[2] = 3;", code, 3, numbers=[1, 2, 3], strings=["x"])

    def test_exp(self):
        self.check_body("1;\n2;", "number 0, drop, number 1, drop, nothing, back", 1, lines="1x2 2x4", numbers=[1, 2])

    def test_throw(self):
        self.check_body("throw\n1;", "number 0, throw, nothing, back", 1, lines="1x2 2x2", numbers=[1])

    def test_yield(self):
        self.check_body("yield;", "yield, nothing, back", 1)

    def test_return(self):
        expected = image([
            function("m", "function 1, set 0, nothing, back", "1x2 4x2", 1),
            function("f", "nothing, back, number 0, back, nothing, back", "2x2 3x2 4x2", 1),
        ], numbers=[8], modules=[("m", 0, 1)])
        self.assertEqual(read_one("fn f() {\nreturn;\nreturn 8;\n}"), expected)

    def test_give(self):
        self.check_body("let a = 1; give a;", "number 0, set 0, global 0, give 0, nothing, back", 1,
                        commons=1, numbers=[1], strings=["a"])


class Branches(ReadCase):
    def test_if(self):
        code = "truth 1, unless 4, number 0, drop, nothing, back"
        self.check_body("if true {\n1;\n}", code, 1, lines="1x2 2x2 3x2", numbers=[1])
        self.check_body("if true {}", "truth 1, unless 2, nothing, back", 1)

    def test_if_else(self):
        code = "truth 1, unless 5, number 0, drop, go 7, number 1, drop, nothing, back"
        self.check_body("if true {\n1;\n} else {\n2;\n}", code, 1, lines="1x2 2x2 1x1 4x2 5x2", numbers=[1, 2])
        self.check_body("if true {} else {}", "truth 1, unless 3, go 3, nothing, back", 1)

    def test_else_if_has_its_own_line(self):
        text = "if true {\n1;\n} else\nif false {\n2;\n}\n"
        code = "truth 1, unless 5, number 0, drop, go 9, truth 0, unless 9, number 1, drop, nothing, back"
        self.check_body(text, code, 1, lines="1x2 2x2 1x1 4x2 5x2 7x2", numbers=[1, 2])

    def test_else_if_else(self):
        text = "if 1 {\n5;\n} else if 2 {\n6;\n} else {\n7;\n}"
        code = """number 0, unless 5, number 1, drop, go 12,
                  number 2, unless 10, number 3, drop, go 12, number 4, drop, nothing, back"""
        self.check_body(text, code, 1, lines="1x2 2x2 1x1 3x2 4x2 3x1 6x2 7x2", numbers=[1, 5, 2, 6, 7])

    def test_line_of_a_stat_of_several_rows(self):
        code = "number 0, number 1, add, drop, number 2, drop, nothing, back"
        self.check_body("1 +\n 2\n;\n3;", code, 2, lines="1x4 4x4", numbers=[1, 2, 3])

    def test_line_behind_a_function_within_a_stat(self):
        expected = image([
            function("m", "function 1, number 0, call 1, drop, nothing, back", "1x4 3x2", 2),
            function("", "number 1, drop, nothing, back", "2x2 3x2", 1),
        ], numbers=[9, 5])
        self.assertEqual(read_one("fn () {\n5;\n}(9);"), expected)


class Loops(ReadCase):
    def test_while(self):
        code = "truth 1, unless 5, number 0, drop, go 0, nothing, back"
        self.check_body("while true {\n1;\n}\n", code, 1, lines="1x2 2x2 1x1 4x2", numbers=[1])

    def test_break_and_continue_in_while(self):
        code = "number 0, drop, truth 1, unless 7, go 7, go 2, go 2, nothing, back"
        self.check_body("9; while true { break; continue; }", code, 1, numbers=[9])

    def test_loops_within_loops(self):
        text = "while 1 { while 2 { break; continue; } break; continue; } while 3 { while 4 {} }"
        code = """number 0, unless 10, number 1, unless 7, go 7, go 2, go 2, go 10, go 0, go 0,
                  number 2, unless 16, number 3, unless 15, go 12, go 10, nothing, back"""
        self.check_body(text, code, 1, numbers=[1, 2, 3, 4])

    def test_a_for_within_a_for_within_a_while(self):
        text = "while 1 { for i in 1 to 1 { for j in i to 1 { break; continue; } continue; break; } continue; }"
        code = """number 0, unless 46, number 0, put 0, number 0, put 1, get 0, get 1, notmore, unless 44,
                  get 0, put 2,
                  get 2, put 3, number 0, put 4, get 3, get 4, notmore, unless 33, get 3, put 5,
                  go 33, go 24, get 3, get 4, less, unless 33, get 3, number 0, add, put 3, go 20,
                  go 35, go 44, get 0, get 1, less, unless 44, get 0, number 0, add, put 0, go 10,
                  go 0, go 0, nothing, back"""
        self.check_body(text, code, 2, places=6, numbers=[1])

    def test_for(self):
        code = """number 0, put 0, number 1, put 1, get 0, get 1, notmore, unless 21, get 0, put 2,
                  get 2, drop, get 0, get 1, less, unless 21, get 0, number 0, add, put 0, go 8, nothing, back"""
        self.check_body("for i in 1 to 3 {\ni;\n}", code, 2, lines="1x10 2x2 1x9 3x2", places=3, numbers=[1, 3])

    def test_numbers_of_a_for(self):
        code = """number 0, put 0, number 1, put 1, get 0, get 1, notmore, unless 19, get 0, put 2,
                  get 0, get 1, less, unless 19, get 0, number 2, add, put 0, go 8, nothing, back"""
        self.check_body("for i in 5 to 6 {}", code, 2, places=3, numbers=[5, 6, 1])

    def test_break_and_continue_in_for(self):
        code = """number 0, put 0, number 0, put 1, get 0, get 1, notmore, unless 21, get 0, put 2,
                  go 21, go 12, get 0, get 1, less, unless 21, get 0, number 0, add, put 0, go 8, nothing, back"""
        self.check_body("for i in 1 to 1 { break; continue; }", code, 2, places=3, numbers=[1])

    def test_for_whose_name_is_a_cell(self):
        body = """number 0, put 0, number 0, put 1, get 0, get 1, notmore, unless 21, get 0, cell 2,
                  function 1, drop, get 0, get 1, less, unless 21, get 0, number 0, add, put 0, go 8, nothing, back"""
        expected = image([
            function("m", body, 1, 2, places=3),
            function("", "caught 0, drop, nothing, back", 1, 1, catches=[(0, 2)]),
        ], numbers=[1])
        self.assertEqual(read_one("for i in 1 to 1 { fn () { i; }; }"), expected)

    def test_for_behind_variables(self):
        code = """truth 1, unless 23, number 0, put 0,
                  get 0, put 1, get 0, put 2, get 1, get 2, notmore, unless 23, get 1, put 3,
                  get 1, get 2, less, unless 23, get 1, number 0, add, put 1, go 12, nothing, back"""
        self.check_body("if true { let a = 1; for a in a to a {} }", code, 2, places=4, numbers=[1])

    def test_places_are_free_again(self):
        code = """truth 1, unless 4, number 0, put 0, truth 1, unless 8, number 0, put 0, nothing, back"""
        self.check_body("if true { let a = 1; } if true { let a = 1; }", code, 1, places=1, numbers=[1])
        code = """truth 1, unless 10, number 0, put 0, truth 1, unless 8, number 0, put 1,
                  number 0, put 1, nothing, back"""
        self.check_body("if true { let a = 1; if true { let b = 1; } let c = 1; }", code, 1, places=2, numbers=[1])


class Trys(ReadCase):
    def test_try(self):
        code = "guard 5, number 0, drop, unguard, go 8, put 0, get 0, drop, nothing, back"
        self.check_body("try {\n1;\n} catch e {\ne;\n}", code, 1, lines="1x1 2x2 1x3 4x2 5x2", places=1, numbers=[1])

    def test_try_of_nothing(self):
        self.check_body("try {} catch e {}", "guard 3, unguard, go 4, put 0, nothing, back", 1, places=1)

    def test_try_whose_name_is_a_cell(self):
        expected = image([
            function("m", "guard 3, unguard, go 6, cell 0, function 1, drop, nothing, back", 1, 1, places=1),
            function("", "caught 0, drop, nothing, back", 1, 1, catches=[(0, 0)]),
        ])
        self.assertEqual(read_one("try {} catch e { fn () { e; }; }"), expected)

    def test_break_and_continue_out_of_a_try(self):
        code = """truth 1, unless 11, guard 9, unguard, go 11, unguard, go 0, unguard, go 10, put 0, go 0,
                  nothing, back"""
        self.check_body("while true { try { break; continue; } catch e {} }", code, 1, places=1)

    def test_none_out_of_a_catch(self):
        code = "truth 1, unless 9, guard 5, unguard, go 8, put 0, go 9, go 0, go 0, nothing, back"
        self.check_body("while true { try { } catch e { break; continue; } }", code, 1, places=1)

    def test_none_out_of_a_loop_within_a_try(self):
        code = """guard 7, truth 1, unless 5, go 5, go 1, unguard, go 8, put 0, nothing, back"""
        self.check_body("try { while true { break; } } catch e {}", code, 1, places=1)

    def test_out_of_two_trys_but_not_of_the_third(self):
        text = "try { while true { try { try { break; } catch a { continue; } } catch b { break; } } } catch c {}"
        code = """guard 20, truth 1, unless 18, guard 15,
                  guard 10, unguard, unguard, go 18, unguard, go 13, put 0, unguard, go 1,
                  unguard, go 17, put 0, go 18, go 1, unguard, go 21, put 0, nothing, back"""
        self.check_body(text, code, 1, places=1)

    def test_return_out_of_trys_and_loops(self):
        text = """fn f(a) {
try {
for i in a to a {
try { return a; } catch b { return; }
}
} catch c { return c; }
}"""
        code = """guard 33, get 0, put 1, get 0, put 2, get 1, get 2, notmore, unless 31, get 1, put 3,
                  guard 18, get 0, unguard, unguard, back, unguard, go 22, put 4, nothing, unguard, back,
                  get 1, get 2, less, unless 31, get 1, number 0, add, put 1, go 9,
                  unguard, go 36, put 1, get 1, back, nothing, back"""
        lines = "2x1 3x10 4x11 3x9 2x3 6x2 7x2"
        expected = image([
            function("m", "function 1, set 0, nothing, back", "1x2 7x2", 1),
            function("f", code, lines, 2, arguments=1, places=5),
        ], numbers=[1], modules=[("m", 0, 1)])
        self.assertEqual(read_one(text), expected)

    def test_return_from_an_inner_function_leaves_its_own_trys_alone(self):
        expected = image([
            function("m", "guard 5, function 1, drop, unguard, go 6, put 0, nothing, back", 1, 1, places=1),
            function("", "nothing, back, nothing, back", 1, 1),
        ])
        self.assertEqual(read_one("try { fn () { return; }; } catch e {}"), expected)
