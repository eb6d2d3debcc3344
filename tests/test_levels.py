from tests.calling import CallingTest, in_main


def brackets(depth):
    return "(" * depth + "7" + ")" * depth


def right_sides(depth):
    return "(1 + " * depth + "1" + ")" * depth


class Operands(CallingTest):
    def test_brackets(self):
        self.check_value(brackets(99), 7)
        self.check_main_refused(f"print {brackets(100)};", -3)

    def test_signs(self):
        self.check_value("-" * 99 + "7", -7)
        self.check_main_refused("print " + "-" * 100 + "7;", -3)
        self.check_value("!" * 99 + "7", 0)
        self.check_main_refused("print " + "!" * 100 + "7;", -3)

    def test_signs_and_brackets_add_up(self):
        self.check_value("-" * 50 + brackets(49), 7)
        self.check_main_refused("print " + "-" * 50 + brackets(50) + ";", -3)
        self.check_value("-(" * 49 + "-7" + ")" * 49, 7)
        self.check_main_refused("print " + "-(" * 50 + "7" + ")" * 50 + ";", -3)

    def test_a_right_side_is_one_more(self):
        self.check_value("1 + " + brackets(98), 8)
        self.check_main_refused("print 1 + " + brackets(99) + ";", -3)
        self.check_value("1 + -" + brackets(97), -6)
        self.check_main_refused("print 1 + -" + brackets(98) + ";", -3)

    def test_a_left_side_is_not(self):
        self.check_value(brackets(99) + " + 1", 8)
        self.check_value(brackets(99) + " * 2 + 1 == 15 && 1", 1)
        self.check_main_refused("print " + brackets(100) + " + 1;", -3)

    def test_right_sides_in_brackets_count_two(self):
        self.check_value(right_sides(49), 50)
        self.check_value("-" + right_sides(49), -50)
        self.check_main_refused("print " + right_sides(50) + ";", -3)

    def test_tighter_right_sides_within_right_sides(self):
        # The last number stands at six levels more than the first.
        tower = "1 || 1 && 1 == 1 < 1 + 1 * "
        self.check_value(tower + brackets(93), 1)
        self.check_main_refused("print " + tower + brackets(94) + ";", -3)

    def test_looser_operators_begin_again_from_the_left(self):
        self.check_value("1 * 1 + 1 + " + brackets(98), 9)
        self.check_main_refused("print 1 * 1 + 1 + " + brackets(99) + ";", -3)
        self.check_value("1 + 1 * " + brackets(97), 8)
        self.check_main_refused("print 1 + 1 * " + brackets(98) + ";", -3)

    def test_names_count_like_numbers(self):
        self.check_main("int x; print " + "(" * 99 + "x" + ")" * 99 + ";", 0)
        self.check_main_refused("int x; print " + "(" * 100 + "x" + ")" * 100 + ";", -3)

    def test_each_expression_of_a_statement_begins_at_0(self):
        deep = "(" * 99 + "1" + ")" * 99
        deeper = "(" + deep + ")"
        places = (
            "int x; x = {};", "if ({}) skip;", "y = 1; while ({} * y) y = 0;", "run f(1, {});",
            "alt {{ ({}) & skip : skip; }}", "par {{ c ! {}; c ? y; }}",
        )
        for place in places:
            source = "proc f(int a, int b) {{ }} proc main() {{ chan c; int y; {} }}"
            self.check_lines(source.format(place.format(deep)))
            self.check_refused(source.format(place.format(deeper)), -3)

    def test_an_expression_deep_within_statements_begins_at_0_too(self):
        self.check_main("if (1) " * 98 + f"print {brackets(99)};", 7)

    def test_too_deep_is_refused_where_it_is_never_come_to(self):
        self.check_main_refused(f"if (0) print {brackets(100)};", -3)

    def test_far_too_deep(self):
        self.check_main_refused("print " + brackets(30000) + ";", -3)
        self.check_main_refused("print " + "-" * 60000 + "1;", -3)

    def test_left_sides_as_long_as_the_text(self):
        self.check_value("1" + "+1" * 32000, 32001)
        self.check_value("1" + "-1" * 32000, -31999)
        self.check_value("1" + "&&1" * 21000, 1)
        self.check_value("0" + "||0" * 21000, 0)
        self.check_value("3" + "*1+0" * 16000, 3)
        self.check_value("1" + "==1" * 21000, 1)


class Statements(CallingTest):
    def check_deepest(self, opening, innermost, closing):
        self.check_main(opening * 98 + innermost + closing * 98, 5)
        self.check_main_refused(opening * 99 + innermost + closing * 99, -3)

    def test_braces(self):
        self.check_deepest("{ ", "print 5;", "} ")

    def test_par(self):
        self.check_deepest("par { ", "print 5;", "} ")

    def test_if(self):
        self.check_deepest("if (1) ", "print 5;", "")

    def test_else(self):
        self.check_deepest("if (0) skip; else ", "print 5;", "")

    def test_while(self):
        self.check_main("int x; x = 1; " + "while (x) " * 97 + "{ x = 0; print 5; }", 5)
        self.check_main_refused("int x; x = 1; " + "while (x) " * 98 + "{ x = 0; print 5; }", -3)

    def test_alt(self):
        self.check_deepest("alt { skip : ", "print 5;", "} ")

    def test_a_statement_without_any_within_may_stand_at_99(self):
        for innermost in ("{ }", "par { }", "int x;", "chan c;", "skip;"):
            self.check_main("{ " * 98 + innermost + "} " * 98)
            self.check_main_refused("{ " * 99 + innermost + "} " * 99, -3)
        self.check_main("if (1) " * 98 + "int x;")
        self.check_main_refused("if (1) " * 99 + "int x;", -3)

    def test_an_if_can_not_stand_at_99(self):
        self.check_main("{ " * 97 + "if (0) skip;" + "} " * 97)
        self.check_main_refused("{ " * 98 + "if (0) skip;" + "} " * 98, -3)

    def test_statements_one_after_another_are_not_deeper(self):
        self.check_main("{ } " * 15000)
        self.check_main("skip; " * 10000)

    def test_far_too_deep(self):
        self.check_main_refused("{" * 30000 + "}" * 30000, -3)
        self.check_refused(in_main("if(1)" * 12000 + "skip;"), -3)

    def test_a_process_run_begins_at_1_again(self):
        source = "proc f() { " + "{ " * 98 + "print 5;" + "} " * 98 + "} "
        self.check_lines(source + in_main("{ " * 98 + "run f();" + "} " * 98), 5)
