from tests.calling import CallingTest, answer, in_main

LOWEST = "(-2147483647 - 1)"
FROM_THE_LOOSEST = (("||",), ("&&",), ("==", "!="), ("<", "<=", ">", ">="), ("+", "-"), ("*", "/", "%"))


class Arithmetic(CallingTest):
    def test_plus_minus_times(self):
        self.check_value("2 + 3", 5)
        self.check_value("2 - 3", -1)
        self.check_value("-4 * 3", -12)
        self.check_value("0 * -5", 0)

    def test_division_cuts_toward_zero(self):
        for left, right, quotient, rest in (
            ("7", "2", 3, 1), ("-7", "2", -3, -1), ("7", "-2", -3, 1), ("-7", "-2", 3, -1),
            ("-1", "1", -1, 0), ("1", "1", 1, 0), ("1", "-1", -1, 0), ("-1", "-1", 1, 0),
            ("6", "3", 2, 0), ("-6", "3", -2, 0), ("1", "2", 0, 1), ("-1", "2", 0, -1), ("0", "-5", 0, 0),
            ("2147483647", "-1", -2147483647, 0), (LOWEST, "1", -2147483648, 0), (LOWEST, LOWEST, 1, 0),
            (LOWEST, "2147483647", -1, -1), ("2147483647", LOWEST, 0, 2147483647), (LOWEST, "10", -214748364, -8),
        ):
            self.check_value(f"{left} / {right}", quotient)
            self.check_value(f"{left} % {right}", rest)

    def test_the_one_division_that_wraps(self):
        self.check_value(f"{LOWEST} / -1", -2147483648)
        self.check_value(f"{LOWEST} % -1", 0)

    def test_wrapping_at_32_bits(self):
        self.check_value("2147483647 + 1", -2147483648)
        self.check_value("2147483647 + 2147483647", -2)
        self.check_value(f"{LOWEST} - 1", 2147483647)
        self.check_value(f"{LOWEST} + {LOWEST}", 0)
        self.check_value(f"-{LOWEST}", -2147483648)
        self.check_value("65536 * 65536", 0)
        self.check_value("65536 * 32768", -2147483648)
        self.check_value("46341 * 46341", -2147479015)
        self.check_value("2147483647 * 2147483647", 1)
        self.check_value("2147483647 * 2", -2)
        self.check_value(f"{LOWEST} * -1", -2147483648)
        self.check_value(f"{LOWEST} * {LOWEST}", 0)

    def test_wrapping_comes_at_each_operator(self):
        self.check_value("(2147483647 + 1) / 2", -1073741824)
        self.check_value("2147483647 + 1 < 0", 1)
        self.check_value("65536 * 65536 / 65536", 0)


class Comparisons(CallingTest):
    def test_each(self):
        for sign, answers in (
            ("==", (0, 1, 0)), ("!=", (1, 0, 1)), ("<", (1, 0, 0)), ("<=", (1, 1, 0)), (">", (0, 0, 1)), (">=", (0, 1, 1)),
        ):
            for left, right_answer in zip(("-2", "3", "4"), answers):
                self.check_value(f"{left} {sign} 3", right_answer)

    def test_with_signs(self):
        self.check_value(f"{LOWEST} < 2147483647", 1)
        self.check_value("-1 > 0", 0)


class Logic(CallingTest):
    def test_answers_are_1_or_0(self):
        for left, right, both, either in ((0, 0, 0, 0), (0, 5, 0, 1), (7, 0, 0, 1), (-3, 9, 1, 1)):
            self.check_value(f"{left} && {right}", both)
            self.check_value(f"{left} || {right}", either)

    def test_not(self):
        self.check_value("!0", 1)
        self.check_value("!1", 0)
        self.check_value("!-5", 0)
        self.check_value("!!9", 1)

    def test_the_right_side_is_looked_at_only_if_needed(self):
        self.check_value("0 && 1 / 0", 0)
        self.check_value("1 || 1 / 0", 1)
        self.check_value("0 && nowhere", 0)
        self.check_value("5 || nowhere", 1)
        self.check_main_refused("print 1 && 1 / 0;", -12)
        self.check_main_refused("print 0 || 1 / 0;", -12)
        self.check_main_refused("print 2 && nowhere;", -11)
        self.check_main_refused("print 0 || nowhere;", -11)
        self.check_value("0 && 1 / 0 || 3", 1)
        self.check_value("0 && 1 / 0 && 1 / 0", 0)
        self.check_value("1 || 1 / 0 || 1 / 0", 1)
        self.check_value("1 || 1 / 0 && 1 / 0", 1)
        self.check_main_refused("print 0 && 1 || 1 / 0;", -12)
        self.check_main_refused("print 1 / 0 && 0;", -12)

    def test_other_operators_look_at_both_sides(self):
        self.check_main_refused("print 0 * (1 / 0);", -12)
        self.check_main_refused("print 0 * nowhere;", -11)


class Grouping(CallingTest):
    def test_each_operator_beside_each(self):
        tightness = {sign: place for place, signs in enumerate(FROM_THE_LOOSEST) for sign in signs}
        operands = [(a, b, c) for a in (-1, 0, 1, 7) for b in (1, 2, 5) for c in (1, 2, 3)]
        for first in tightness:
            for second in tightness:
                form = "print ({0} {3} {1}) {4} {2};"
                if tightness[second] > tightness[first]:
                    form = "print {0} {3} ({1} {4} {2});"
                for abc in operands:
                    plain = "print {0} {3} {1} {4} {2};".format(*abc, first, second)
                    with self.subTest(statement=plain):
                        self.assertEqual(answer(in_main(plain)), answer(in_main(form.format(*abc, first, second))))

    def test_from_the_left(self):
        self.check_value("10 - 3 - 2", 5)
        self.check_value("100 / 10 / 5", 2)
        self.check_value("100 / 10 * 5", 50)
        self.check_value("100 % 7 * 3", 6)
        self.check_value("7 * 5 % 4", 3)
        self.check_value("3 > 2 > 1", 0)
        self.check_value("1 < 1 < 1", 1)
        self.check_value("2 == 2 == 2", 0)
        self.check_value("2 != 2 == 0", 1)
        self.check_value("0 == 0 != 0", 1)
        self.check_value("5 - 3 + 2", 4)

    def test_from_the_loosest(self):
        self.check_value("1 || 0 && 0", 1)
        self.check_value("0 && 0 || 1", 1)
        self.check_value("0 && 0 == 0", 0)
        self.check_value("2 && 2 == 1", 0)
        self.check_value("1 == 2 < 3", 1)
        self.check_value("5 == 5 > 4", 0)
        self.check_value("3 < 2 + 2", 1)
        self.check_value("1 + 1 < 2 + 1", 1)
        self.check_value("2 + 3 * 4", 14)
        self.check_value("2 * 3 + 4", 10)
        self.check_value("20 - 7 % 4", 17)
        self.check_value("20 - 8 / 4", 18)

    def test_signs_before_bind_tightest(self):
        self.check_value("-2 * -3", 6)
        self.check_value("-7 / 2", -3)
        self.check_value("-7 % 4", -3)
        self.check_value("!0 + 1", 2)
        self.check_value("!1 == 0", 1)
        self.check_value("!2 * 0", 0)
        self.check_value("-1 + 1", 0)
        self.check_value("1 - -1", 2)
        self.check_value("1--1", 2)
        self.check_value("!0 && 0", 0)
        self.check_value("- !0", -1)
        self.check_value("!-0", 1)

    def test_brackets(self):
        self.check_value("(2 + 3) * 4", 20)
        self.check_value("10 - (3 - 2)", 9)
        self.check_value("-(2 + 3)", -5)
        self.check_value("!(1 == 0)", 1)
        self.check_value("(1 || 0) && 0", 0)
        self.check_value("((((3))))", 3)

    def test_a_mixture(self):
        self.check_value("1 + 2 * 3 - 4 / 2 % 3 < 6 == 1 && 7 > 6 || 1 / 0", 1)
        self.check_main("int x; int y; x = 3; y = x * x - -x; print y % 5 + x;", 5)


class GoingWrong(CallingTest):
    def test_dividing_by_zero(self):
        for expression in ("1 / 0", "1 % 0", "0 / 0", "0 % 0", "5 / (3 - 3)", "5 % x", "1 + 2 / x * 0"):
            self.check_main_refused(f"int x; print {expression};", -12)

    def test_the_left_side_comes_first(self):
        self.check_main_refused("print 1 / 0 + nowhere;", -12)
        self.check_main_refused("print nowhere + 1 / 0;", -11)
        self.check_main_refused("print nowhere / 0;", -11)
        self.check_main_refused("print 1 / nowhere;", -11)
        self.check_main_refused("print (1 / 0) == nowhere;", -12)
        self.check_main_refused("print 1 + 1 / 0 + nowhere;", -12)
        self.check_main_refused("print nowhere * 2 < 1 / 0;", -11)

    def test_in_each_statement(self):
        for statement in (
            "x = 1 / 0;", "c ! 1 / 0;", "if (1 / 0) skip;", "while (1 / 0) skip;", "print 1 / 0;", "run f(1 / 0);",
            "alt { (1 / 0) & skip : skip; }",
        ):
            self.check_refused("proc f(int a) { } proc main() { int x; chan c; " + statement + " }", -12)
