"""Each exp, alone in a module, with the whole of what it becomes."""

from tests.helper import ReadCase, function, image, read_one


class Prims(ReadCase):
    def test_number(self):
        answer = [0, 0, 1, 7, 0, 1, 1, 109, 0, 0, 1, 1, 109, 0, 0, 0, 0, 1, 4]
        answer += [2, 0, 0, 17, 0, 0, 0, 0, 0, 14, 0, 0, 1, 1, 1, 1]
        self.assertEqual(read_one("7;"), answer)
        self.check_body("7;", "number 0, drop, nothing, back", 1, numbers=[7])

    def test_string(self):
        answer = [0, 1, 2, 104, 105, 0, 0, 1, 1, 109, 0, 0, 1, 1, 109, 0, 0, 0, 0, 1, 4]
        answer += [3, 0, 0, 17, 0, 0, 0, 0, 0, 14, 0, 0, 1, 1, 1, 1]
        self.assertEqual(read_one('"hi";'), answer)

    def test_truth(self):
        self.check_body("true; false;", "truth 1, drop, truth 0, drop, nothing, back", 1)

    def test_nothing(self):
        self.check_body("nothing;", "nothing, drop, nothing, back", 1)

    def test_group(self):
        self.check_body("(7);", "number 0, drop, nothing, back", 1, numbers=[7])
        self.check_body("((7));", "number 0, drop, nothing, back", 1, numbers=[7])

    def test_common_name(self):
        self.check_body("let a = 5; a;", "number 0, set 0, global 0, drop, nothing, back", 1, commons=1, numbers=[5])

    def test_variable(self):
        code = "truth 1, unless 6, number 0, put 0, get 0, drop, nothing, back"
        self.check_body("if true { let v = 5; v; }", code, 1, places=1, numbers=[5])

    def test_cell_and_caught(self):
        body = "truth 1, unless 8, number 0, cell 0, held 0, drop, function 1, drop, nothing, back"
        inner = "caught 0, drop, nothing, back"
        expected = image([
            function("m", body, 1, 1, places=1),
            function("", inner, 1, 1, catches=[(0, 0)]),
        ], numbers=[5])
        self.assertEqual(read_one("if true { let v = 5; v; fn () { v; }; }"), expected)

    def test_list(self):
        self.check_body("[];", "list 0, drop, nothing, back", 1)
        self.check_body("[5];", "number 0, list 1, drop, nothing, back", 1, numbers=[5])
        code = "number 0, number 1, number 0, list 3, drop, nothing, back"
        self.check_body("[5, 6, 5];", code, 3, numbers=[5, 6])

    def test_table(self):
        self.check_body("{};", "table 0, drop, nothing, back", 1)
        code = "string 0, number 0, string 1, number 1, number 2, number 3, table 3, drop, nothing, back"
        self.check_body('{a: 1, "b": 2, [3]: 4};', code, 6, strings=["a", "b"], numbers=[1, 2, 3, 4])

    def test_table_key_is_no_name_that_must_be_there(self):
        self.check_body("{zz: 1};", "string 0, number 0, table 1, drop, nothing, back", 2, strings=["zz"], numbers=[1])

    def test_function(self):
        expected = image([
            function("m", "function 1, drop, nothing, back", 1, 1),
            function("", "get 1, drop, nothing, back", 1, 1, arguments=2, places=2),
        ])
        self.assertEqual(read_one("fn (a, b) { b; };"), expected)

    def test_function_called_on_the_spot(self):
        expected = image([
            function("m", "function 1, call 0, drop, nothing, back", 1, 1),
            function("", "nothing, back", 1, 1),
        ])
        self.assertEqual(read_one("fn () { }();"), expected)

    def test_host(self):
        code = "number 0, number 1, host 0 2, drop, host 1 0, drop, host 0 0, drop, nothing, back"
        self.check_body("host h(1, 2); host g(); host h();", code, 2, numbers=[1, 2], hosts=["h", "g"])

    def test_task(self):
        code = "number 0, number 1, number 2, task 2, drop, nothing, back"
        self.check_body("task 1(2, 3);", code, 3, numbers=[1, 2, 3])
        self.check_body("task 1();", "number 0, task 0, drop, nothing, back", 1, numbers=[1])
        code = "number 0, number 1, call 1, number 2, task 1, drop, nothing, back"
        self.check_body("task 1(2)(3);", code, 2, numbers=[1, 2, 3])
        code = "number 0, string 0, at, task 0, drop, nothing, back"
        self.check_body("task 1.x();", code, 2, numbers=[1], strings=["x"])

    def test_task_joined_with_signs(self):
        code = "number 0, task 0, number 1, add, drop, nothing, back"
        self.check_body("task 1() + 2;", code, 2, numbers=[1, 2])

    def test_words_with_one(self):
        self.check_body("channel(1);", "number 0, channel, drop, nothing, back", 1, numbers=[1])
        self.check_body("receive(1);", "number 0, receive, drop, nothing, back", 1, numbers=[1])
        self.check_body("join(1);", "number 0, join, drop, nothing, back", 1, numbers=[1])
        self.check_body("len(1);", "number 0, long, drop, nothing, back", 1, numbers=[1])
        self.check_body("wait(1);", "number 0, wait, nothing, drop, nothing, back", 1, numbers=[1])

    def test_send(self):
        code = "number 0, number 1, send, nothing, drop, nothing, back"
        self.check_body("send(1, 2);", code, 2, numbers=[1, 2])


class Posts(ReadCase):
    def test_call(self):
        self.check_body("1();", "number 0, call 0, drop, nothing, back", 1, numbers=[1])
        self.check_body("1(2, 3);", "number 0, number 1, number 2, call 2, drop, nothing, back", 3, numbers=[1, 2, 3])

    def test_index(self):
        self.check_body("1[2];", "number 0, number 1, at, drop, nothing, back", 2, numbers=[1, 2])

    def test_dot(self):
        self.check_body("1.ab;", "number 0, string 0, at, drop, nothing, back", 2, numbers=[1], strings=["ab"])

    def test_one_behind_another(self):
        code = "number 0, number 1, at, string 0, at, number 2, call 1, call 0, drop, nothing, back"
        self.check_body("1[2].x(3)();", code, 2, numbers=[1, 2, 3], strings=["x"])

    def test_behind_words(self):
        code = "number 0, receive, string 0, at, drop, nothing, back"
        self.check_body("receive(1).x;", code, 2, numbers=[1], strings=["x"])


class Joined(ReadCase):
    def test_or(self):
        code = "number 0, twice, unless 4, go 6, drop, number 1, drop, nothing, back"
        self.check_body("1 or 2;", code, 2, numbers=[1, 2])

    def test_or_from_the_left(self):
        code = """number 0, twice, unless 4, go 6, drop, number 1,
                  twice, unless 9, go 11, drop, number 2, drop, nothing, back"""
        self.check_body("1 or 2 or 3;", code, 2, numbers=[1, 2, 3])

    def test_and(self):
        code = "number 0, twice, unless 5, drop, number 1, drop, nothing, back"
        self.check_body("1 and 2;", code, 2, numbers=[1, 2])

    def test_and_from_the_left(self):
        code = "number 0, twice, unless 5, drop, number 1, twice, unless 9, drop, number 2, drop, nothing, back"
        self.check_body("1 and 2 and 3;", code, 2, numbers=[1, 2, 3])

    def test_and_within_or(self):
        code = """number 0, twice, unless 4, go 10, drop,
                  number 1, twice, unless 10, drop, number 2, drop, nothing, back"""
        self.check_body("1 or 2 and 3;", code, 2, numbers=[1, 2, 3])
        code = """number 0, twice, unless 5, drop, number 1,
                  twice, unless 8, go 10, drop, number 2, drop, nothing, back"""
        self.check_body("1 and 2 or 3;", code, 2, numbers=[1, 2, 3])

    def test_or_in_a_group(self):
        code = """number 0, twice, unless 10, drop,
                  number 1, twice, unless 8, go 10, drop, number 2, drop, nothing, back"""
        self.check_body("1 and (2 or 3);", code, 2, numbers=[1, 2, 3])

    def test_not_and_minus(self):
        self.check_body("not 1;", "number 0, not, drop, nothing, back", 1, numbers=[1])
        self.check_body("not not 1;", "number 0, not, not, drop, nothing, back", 1, numbers=[1])
        self.check_body("-1;", "number 0, minus, drop, nothing, back", 1, numbers=[1])
        self.check_body("- -1;", "number 0, minus, minus, drop, nothing, back", 1, numbers=[1])
        self.check_body("--1;", "number 0, minus, minus, drop, nothing, back", 1, numbers=[1])

    def test_tests(self):
        for sign, made in (("==", "same"), ("!=", "unlike"), ("<", "less"), ("<=", "notmore"),
                           (">", "swap, less"), (">=", "swap, notmore")):
            code = f"number 0, number 1, {made}, drop, nothing, back"
            self.check_body(f"1 {sign} 2;", code, 2, numbers=[1, 2])

    def test_sums_and_products(self):
        for sign, made in (("+", "add"), ("-", "sub"), ("*", "mul"), ("/", "div"), ("%", "mod")):
            code = f"number 0, number 1, {made}, drop, nothing, back"
            self.check_body(f"1 {sign} 2;", code, 2, numbers=[1, 2])

    def test_from_the_left(self):
        code = "number 0, number 1, sub, number 2, add, drop, nothing, back"
        self.check_body("1 - 2 + 3;", code, 2, numbers=[1, 2, 3])
        code = "number 0, number 1, div, number 2, mod, number 3, mul, drop, nothing, back"
        self.check_body("1 / 2 % 3 * 4;", code, 2, numbers=[1, 2, 3, 4])

    def test_products_within_sums(self):
        code = "number 0, number 1, number 2, mul, add, drop, nothing, back"
        self.check_body("1 + 2 * 3;", code, 3, numbers=[1, 2, 3])
        code = "number 0, number 1, mul, number 2, add, drop, nothing, back"
        self.check_body("1 * 2 + 3;", code, 2, numbers=[1, 2, 3])
        code = "number 0, number 1, add, number 2, mul, drop, nothing, back"
        self.check_body("(1 + 2) * 3;", code, 2, numbers=[1, 2, 3])

    def test_sums_within_tests(self):
        code = "number 0, number 1, number 2, add, less, drop, nothing, back"
        self.check_body("1 < 2 + 3;", code, 3, numbers=[1, 2, 3])
        code = "number 0, number 1, add, number 2, swap, less, drop, nothing, back"
        self.check_body("1 + 2 > 3;", code, 2, numbers=[1, 2, 3])
        code = "number 0, number 1, same, number 2, same, drop, nothing, back"
        self.check_body("(1 == 2) == 3;", code, 2, numbers=[1, 2, 3])

    def test_each_test_between_sums(self):
        for sign, made in (("==", "same"), ("!=", "unlike"), ("<", "less"), ("<=", "notmore"),
                           (">", "swap, less"), (">=", "swap, notmore")):
            code = f"number 0, number 1, add, number 2, number 3, sub, {made}, drop, nothing, back"
            self.check_body(f"1 + 2 {sign} 3 - 4;", code, 3, numbers=[1, 2, 3, 4])
            code = f"number 0, number 1, {made}, not, drop, nothing, back"
            self.check_body(f"not 1 {sign} 2;", code, 2, numbers=[1, 2])
            count = code.count("swap")
            code = f"""number 0, number 1, {made}, twice, unless {9 + 2 * count}, drop,
                       number 2, number 3, {made}, drop, nothing, back"""
            self.check_body(f"1 {sign} 2 and 3 {sign} 4;", code, 2, numbers=[1, 2, 3, 4])

    def test_each_sum_with_each_product(self):
        for sum_sign, sum_made in (("+", "add"), ("-", "sub")):
            for sign, made in (("*", "mul"), ("/", "div"), ("%", "mod")):
                code = f"number 0, number 1, number 2, {made}, {sum_made}, drop, nothing, back"
                self.check_body(f"1 {sum_sign} 2 {sign} 3;", code, 3, numbers=[1, 2, 3])
                code = f"number 0, number 1, {made}, number 2, {sum_made}, drop, nothing, back"
                self.check_body(f"1 {sign} 2 {sum_sign} 3;", code, 2, numbers=[1, 2, 3])
                code = f"number 0, minus, number 1, minus, {made}, drop, nothing, back"
                self.check_body(f"-1 {sign} -2;", code, 2, numbers=[1, 2])

    def test_not_holds_a_whole_test(self):
        code = "number 0, number 1, same, not, drop, nothing, back"
        self.check_body("not 1 == 2;", code, 2, numbers=[1, 2])
        code = "number 0, not, twice, unless 6, drop, number 1, drop, nothing, back"
        self.check_body("not 1 and 2;", code, 2, numbers=[1, 2])
        code = "number 0, twice, unless 6, drop, number 1, not, drop, nothing, back"
        self.check_body("1 and not 2;", code, 2, numbers=[1, 2])

    def test_minus_holds_a_post(self):
        code = "number 0, minus, number 1, mul, drop, nothing, back"
        self.check_body("-1 * 2;", code, 2, numbers=[1, 2])
        code = "number 0, number 1, minus, mul, drop, nothing, back"
        self.check_body("1 * -2;", code, 2, numbers=[1, 2])
        code = "number 0, number 1, at, minus, drop, nothing, back"
        self.check_body("-1[2];", code, 2, numbers=[1, 2])
        code = "number 0, number 1, minus, sub, drop, nothing, back"
        self.check_body("1--2;", code, 2, numbers=[1, 2])

    def test_height_of_what_waits(self):
        code = "number 0, number 0, number 0, twice, unless 7, drop, number 0, list 3, drop, nothing, back"
        self.check_body("[0, 0, 0 and 0];", code, 4, numbers=[0])
