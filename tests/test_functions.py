"""Functions within functions: what they catch, which places are cells, how functions are numbered."""

from tests.helper import ReadCase, function, image, read_one


class Catching(ReadCase):
    def test_argument_caught(self):
        text = "fn f(a, b, c) { return fn () { return c + a; }; }"
        expected = image([
            function("m", "function 1, set 0, nothing, back", 1, 1),
            function("f", "function 2, back, nothing, back", 1, 1, arguments=3, places=3, cells=[0, 2]),
            function("", "caught 0, caught 1, add, back, nothing, back", 1, 2, catches=[(0, 2), (0, 0)]),
        ], modules=[("m", 0, 1)])
        self.assertEqual(read_one(text), expected)

    def test_caught_through_the_function_between(self):
        text = """fn f(a) {
    let b = a;
    return fn (c) {
        return fn () {
            b = a;
            c = b;
            return c;
        };
    };
}"""
        expected = image([
            function("m", "function 1, set 0, nothing, back", "1x2 10x2", 1),
            function("f", "held 0, cell 1, function 2, back, nothing, back", "2x2 3x2 10x2", 1,
                     arguments=1, places=2, cells=[0]),
            function("", "function 3, back, nothing, back", "4x2 9x2", 1,
                     arguments=1, places=1, cells=[0], catches=[(0, 1), (0, 0)]),
            function("", "caught 1, catch 0, caught 0, catch 2, caught 2, back, nothing, back",
                     "5x2 6x2 7x2 8x2", 1, catches=[(1, 0), (1, 1), (0, 0)]),
        ], modules=[("m", 0, 1)])
        self.assertEqual(read_one(text), expected)

    def test_number_in_the_function_between_differs(self):
        text = "fn f(a, b) { fn () { b; fn () { a; b; }; a; }; }"
        expected = image([
            function("m", "function 1, set 0, nothing, back", 1, 1),
            function("f", "function 2, drop, nothing, back", 1, 1, arguments=2, places=2, cells=[0, 1]),
            function("", "caught 0, drop, function 3, drop, caught 1, drop, nothing, back", 1, 1,
                     catches=[(0, 1), (0, 0)]),
            function("", "caught 0, drop, caught 1, drop, nothing, back", 1, 1, catches=[(1, 1), (1, 0)]),
        ], modules=[("m", 0, 1)])
        self.assertEqual(read_one(text), expected)

    def test_through_two_functions_between(self):
        text = "fn f(a) { fn () { fn () { fn () { a; }; }; }; }"
        expected = image([
            function("m", "function 1, set 0, nothing, back", 1, 1),
            function("f", "function 2, drop, nothing, back", 1, 1, arguments=1, places=1, cells=[0]),
            function("", "function 3, drop, nothing, back", 1, 1, catches=[(0, 0)]),
            function("", "function 4, drop, nothing, back", 1, 1, catches=[(1, 0)]),
            function("", "caught 0, drop, nothing, back", 1, 1, catches=[(1, 0)]),
        ], modules=[("m", 0, 1)])
        self.assertEqual(read_one(text), expected)

    def test_variables_of_blocks_of_the_body(self):
        text = "let a = 1; while a { let b = 2; fn g() { a = b; } }"
        body = "number 0, set 0, global 0, unless 9, number 1, cell 0, function 1, put 1, go 2, nothing, back"
        expected = image([
            function("m", body, 1, 1, places=2),
            function("g", "caught 0, set 0, nothing, back", 1, 1, catches=[(0, 0)]),
        ], numbers=[1, 2], modules=[("m", 0, 1)])
        self.assertEqual(read_one(text), expected)

    def test_caught_after_it_was_used_plainly(self):
        text = "fn f(a) { a = a; let b = a; b = b; fn () { a; b; }; a = b; }"
        code = """held 0, hold 0, held 0, cell 1, held 1, hold 1, function 2, drop, held 1, hold 0, nothing, back"""
        expected = image([
            function("m", "function 1, set 0, nothing, back", 1, 1),
            function("f", code, 1, 1, arguments=1, places=2, cells=[0]),
            function("", "caught 0, drop, caught 1, drop, nothing, back", 1, 1, catches=[(0, 0), (0, 1)]),
        ], modules=[("m", 0, 1)])
        self.assertEqual(read_one(text), expected)

    def test_two_variables_of_one_place(self):
        text = "fn f() { if 1 { let a = 1; a; } if 1 { let b = 1; fn () { b; }; } }"
        code = """number 0, unless 6, number 0, put 0, get 0, drop,
                  number 0, unless 12, number 0, cell 0, function 2, drop, nothing, back"""
        expected = image([
            function("m", "function 1, set 0, nothing, back", 1, 1),
            function("f", code, 1, 1, places=1),
            function("", "caught 0, drop, nothing, back", 1, 1, catches=[(0, 0)]),
        ], numbers=[1], modules=[("m", 0, 1)])
        self.assertEqual(read_one(text), expected)

    def test_left_of_equals_is_used_first(self):
        text = "fn f(a, b) { fn () { b = a; }; }"
        expected = image([
            function("m", "function 1, set 0, nothing, back", 1, 1),
            function("f", "function 2, drop, nothing, back", 1, 1, arguments=2, places=2, cells=[0, 1]),
            function("", "caught 1, catch 0, nothing, back", 1, 1, catches=[(0, 1), (0, 0)]),
        ], modules=[("m", 0, 1)])
        self.assertEqual(read_one(text), expected)

    def test_jumps_over_a_cell_made_ahead(self):
        text = "fn f() { while 1 { fn g() { g; } if 2 { continue; } break; } }"
        code = """number 0, unless 11, nothing, cell 0, function 2, hold 0, number 1, unless 9, go 0, go 11, go 0,
                  nothing, back"""
        expected = image([
            function("m", "function 1, set 0, nothing, back", 1, 1),
            function("f", code, 1, 1, places=1),
            function("g", "caught 0, drop, nothing, back", 1, 1, catches=[(0, 0)]),
        ], numbers=[1, 2], modules=[("m", 0, 1)])
        self.assertEqual(read_one(text), expected)

    def test_common_names_are_not_caught(self):
        text = "let a = 1; fn f() { return fn () { a = a; return f; }; }"
        expected = image([
            function("m", "number 0, set 0, function 1, set 1, nothing, back", 1, 1),
            function("f", "function 2, back, nothing, back", 1, 1),
            function("", "global 0, set 0, global 1, back, nothing, back", 1, 1),
        ], numbers=[1], modules=[("m", 0, 2)])
        self.assertEqual(read_one(text), expected)


class Numbering(ReadCase):
    def test_functions_in_the_order_of_their_fn(self):
        text = "fn a() { fn b() { fn (x) {}; } } fn c(x, y) {}"
        expected = image([
            function("m", "function 1, set 0, function 4, set 1, nothing, back", 1, 1),
            function("a", "function 2, put 0, nothing, back", 1, 1, places=1),
            function("b", "function 3, drop, nothing, back", 1, 1),
            function("", "nothing, back", 1, 1, arguments=1, places=1),
            function("c", "nothing, back", 1, 1, arguments=2, places=2),
        ], modules=[("m", 0, 2)])
        self.assertEqual(read_one(text), expected)

    def test_pools_follow_the_functions_not_the_text(self):
        text = 'fn a() { 1; "x"; host h(); } 2; "y"; host g(); "x"; 1;'
        body = """function 1, set 0, number 0, drop, string 0, drop, host 0 0, drop, string 1, drop, number 1, drop,
                  nothing, back"""
        expected = image([
            function("m", body, 1, 1),
            function("a", "number 1, drop, string 1, drop, host 1 0, drop, nothing, back", 1, 1),
        ], strings=["y", "x"], numbers=[2, 1], hosts=["g", "h"], modules=[("m", 0, 1)])
        self.assertEqual(read_one(text), expected)

    def test_strings_of_keys_parts_and_gives_are_one_pool(self):
        text = 'let a = {a: "b"}; a.b; a["a"]; give a;'
        code = """string 0, string 1, table 1, set 0, global 0, string 1, at, drop, global 0, string 0, at, drop,
                  global 0, give 0, nothing, back"""
        self.check_body(text, code, 2, commons=1, strings=["a", "b"])

    def test_a_host_and_a_string_are_no_one(self):
        self.check_body('host h(); "h";', "host 0 0, drop, string 0, drop, nothing, back", 1, strings=["h"], hosts=["h"])

    def test_numbers_alike_in_two_forms(self):
        self.check_body("255; 0xff; 0xFF;", "number 0, drop, number 0, drop, number 0, drop, nothing, back", 1,
                        numbers=[255])

    def test_common_name_used_before_it_is_told(self):
        text = "fn f() { return c; } let b = 1; let c = 2;"
        expected = image([
            function("m", "function 1, set 0, number 0, set 1, number 1, set 2, nothing, back", 1, 1),
            function("f", "global 2, back, nothing, back", 1, 1),
        ], numbers=[1, 2], modules=[("m", 0, 3)])
        self.assertEqual(read_one(text), expected)

    def test_greatest_height_is_the_functions_own(self):
        text = "fn f() { [1, 1, 1, 1]; } fn g() { 1 + (1 + (1 + 1)); 1; }"
        expected = image([
            function("m", "function 1, set 0, function 2, set 1, nothing, back", 1, 1),
            function("f", "number 0, number 0, number 0, number 0, list 4, drop, nothing, back", 1, 4),
            function("g", """number 0, number 0, number 0, number 0, add, add, add, drop, number 0, drop,
                             nothing, back""", 1, 4),
        ], numbers=[1], modules=[("m", 0, 2)])
        self.assertEqual(read_one(text), expected)


class Hiding(ReadCase):
    def test_inner_blocks_hide(self):
        code = """number 0, set 0, truth 1, unless 12, global 0, put 0, get 0, drop,
                  truth 1, unless 12, get 0, put 1, global 0, drop, nothing, back"""
        text = "let a = 1; if true { let a = a; a; if true { let a = a; } } a;"
        self.check_body(text, code, 1, places=2, commons=1, numbers=[1])

    def test_parameter_hides_a_common_name(self):
        expected = image([
            function("m", "function 1, set 0, nothing, back", 1, 1),
            function("a", "get 0, drop, nothing, back", 1, 1, arguments=1, places=1),
        ], modules=[("m", 0, 1)])
        self.assertEqual(read_one("fn a(a) { a; }"), expected)

    def test_not_yet_hidden_within_its_own_let(self):
        text = "fn f(a) { if 1 { let a = fn () { return a; }; } }"
        expected = image([
            function("m", "function 1, set 0, nothing, back", 1, 1),
            function("f", "number 0, unless 4, function 2, put 1, nothing, back", 1, 1,
                     arguments=1, places=2, cells=[0]),
            function("", "caught 0, back, nothing, back", 1, 1, catches=[(0, 0)]),
        ], numbers=[1], modules=[("m", 0, 1)])
        self.assertEqual(read_one(text), expected)

    def test_hidden_within_its_own_fn(self):
        text = "fn f(a) { if 1 { fn a() { return a; } } }"
        expected = image([
            function("m", "function 1, set 0, nothing, back", 1, 1),
            function("f", "number 0, unless 6, nothing, cell 1, function 2, hold 1, nothing, back", 1, 1,
                     arguments=1, places=2),
            function("a", "caught 0, back, nothing, back", 1, 1, catches=[(0, 1)]),
        ], numbers=[1], modules=[("m", 0, 1)])
        self.assertEqual(read_one(text), expected)

    def test_told_later_does_not_hide_earlier(self):
        text = "let a = 1; fn f() { a; let a = 2; a; }"
        expected = image([
            function("m", "number 0, set 0, function 1, set 1, nothing, back", 1, 1),
            function("f", "global 0, drop, number 1, put 0, get 0, drop, nothing, back", 1, 1, places=1),
        ], numbers=[1, 2], modules=[("m", 0, 2)])
        self.assertEqual(read_one(text), expected)
