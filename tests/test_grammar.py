from tests.calling import CallingTest, answer, in_main

RIGHT_STATEMENTS = (
    "", "skip;", "int x;", "chan c;", "int x; x = 1;", "{ }", "{ { } { } }", "par { }", "par { skip; }",
    "if (1) skip;", "if (1) skip; else skip;", "if (0) skip; else if (1) skip; else skip;", "while (0) skip;",
    "if (1) { } else { }", "while (0) { }", "par { { } { } }", "par { par { } }", "if (1) int x;",
    "if (0) skip; else chan c;", "while (0) int x;", "par { int x; chan c; }", "alt { skip : skip; }",
    "alt { skip : int x; }", "alt { (1) & skip : skip; }", "chan c; int x; alt { c ? x : skip; skip : skip; }",
    "chan c; int x; alt { (0) & c ? x : skip; (1) & skip : { } }", "run f();", "run main2(1, 2);",
    "if (1) if (0) skip; else skip;", "print 1;", "print(1);", "print - - 1;", "print !!1;", "print -!-1;",
)

WRONG_STATEMENTS = (
    # signs that are missing or too many
    ";", "skip", "skip;;", "stop", "stop stop;", "int x", "chan c", "int;", "chan;", "int x, y;", "int x = 1;",
    "int x y;", "int int x;", "int 5;", "chan int c;",
    "x = ;", "x = 1", "x 1;", "x;", "= 1;", "x = = 1;", "x = 1 = 2;", "5 = 1;", "(x) = 1;", "x += 1;",
    "c ! ;", "c ! 1", "c !;", "! 1;", "5 ! 1;", "c ! 1, 2;", "(c) ! 1;",
    "c ? ;", "c ? x", "c ? 1;", "c ? x + 1;", "c ? (x);", "c ? x, y;", "? x;", "5 ? x;", "c ? int;",
    "skip 1;", "stop 1;",
    "print;", "print 1", "print 1, 2;", "print 1 2;", "print ();", "print skip;", "print x = 1;",
    "run;", "run f;", "run f()", "run f(;", "run f);", "run f(,);", "run f(1,);", "run f(,1);", "run f(1 2);",
    "run (f)();", "run 5();", "run f()();", "run f(int x);", "run f(1;", "run f 1;", "f();",
    "if 1 skip;", "if (1 skip;", "if 1) skip;", "if () skip;", "if (1)", "if (1);", "if (1) else skip;", "if skip;",
    "if (1) skip else skip;", "if (1) skip; else", "if (1) skip; else;", "if (1) skip; else skip; else skip;",
    "else skip;", "if (1, 2) skip;", "if (x = 1) skip;",
    "while 1 skip;", "while () skip;", "while (0)", "while (0);", "while skip;", "while (0 skip;",
    "while (0) skip; else skip;",
    "{", "}", "{ } }", "{ { }", "{ ; }", "{ skip }", "};", "{ };",
    "par", "par;", "par { ", "par skip;", "par { skip }", "par { } ;", "par ( ) { }", "par { ; }", "par 3 { }",
    "alt", "alt;", "alt {", "alt skip;", "alt { skip; }", "alt { skip : }", "alt { skip skip; }", "alt { : skip; }",
    "alt { skip : skip }", "alt { skip : ; }", "alt { c ? x; }", "alt { c ? x : }", "alt { c ? x skip; }",
    "alt { c ? : skip; }", "alt { c : skip; }", "alt { ? x : skip; }", "alt { c ! 1 : skip; }",
    "alt { c ? 1 : skip; }", "alt { c ? (x) : skip; }", "alt { 1 & skip : skip; }", "alt { (1) skip : skip; }",
    "alt { (1) & : skip; }", "alt { (1) c ? x : skip; }", "alt { () & skip : skip; }", "alt { (1 & skip : skip; }",
    "alt { (1) & (1) & skip : skip; }", "alt { & skip : skip; }", "alt { skip : skip; };", "alt { stop : skip; }",
    "alt { (1) && skip : skip; }", "alt { 1 : skip; }", "alt { skip; : skip; }", "alt { skip & (1) : skip; }",
    "proc f() { }", "main", "main();", "1;", "(1);", "-1;", ":", ",", "&", "?",
)

WRONG_EXPRESSIONS = (
    "", "+", "+ 1", "1 +", "1 + + 1", "* 1", "1 *", "1 * / 1", "/ 1", "1 %", "% 1", "1 ==", "== 1", "1 &&", "&& 1",
    "1 ||", "|| 1", "1 <", "> 1", "1 !", "1 ! 1", "1 -", "-", "!", "- !", "(", ")", "()", "(1", "1)", "((1)", "(1))",
    "(1, 2)", "1 (2)", "(1) 2", "(1)(2)", "x y", "x(1)", "f()", "1 = 1", "x = 1", "c ? x", "1 ? 2", "1 ? 2 : 3",
    "1 : 2", "{ 1 }", "1 & 1", "!= 1", "1 < > 2", "1 =< 2", "!", "1 !! 1", "int", "1 int", "if", "~1",
)

WRONG_PROGRAMS = (
    "", " ", "\n", "# nothing", "main", "proc", "proc main", "proc main(", "proc main()", "proc main() {",
    "proc main() { } }", "proc main() { };", "proc main() { } main", "main() { }", "proc () { }", "proc main { }",
    "proc main) { }", "proc main( { }", "proc main() skip;", "proc main() { } skip;", "proc main() { } int x;",
    "int x; proc main() { }", "{ }", "skip;", "proc main() [ ]", "proc main() ( )", "proc main(,) { }", "proc 1() { }",
    "proc main(x) { }", "proc main(int x) { }", "proc main(chan c) { }", "proc Main() { }", "proc f() { }",
    "proc main() { } proc main() { }", "proc main() { } proc main(int x) { }", "proc main(int x) { } proc main() { }",
    "proc f() { } proc f(int x) { } proc main() { }", "proc main() { } 1", "proc main() { } proc", "proc main() { } proc f()",
    "proc proc main() { }", "proc main() proc main() { }", "proc main()() { }", "proc main() { } { }",
)

WRONG_PARAMETERS = (
    "x", "int", "chan", "int x,", ",int x", "int x int y", "int x, y", "int x,, int y", "int x; int y", "int 1",
    "chan 1", "int x = 1", "int int x", "int chan", "int x chan c", "1", "int x y", "(int x)", "int (x)", "proc f", ",",
    "int x, chan", "int x, chan c,", "skip", "int x, skip",
)


class Statements(CallingTest):
    def test_what_is_right_is_a_program(self):
        helpers = "proc f() { } proc main2(int a, int b) { } "
        for statements in RIGHT_STATEMENTS:
            with self.subTest(statements=statements):
                self.assertGreaterEqual(answer(helpers + in_main(statements))[0], 0)

    def test_what_is_wrong_is_none(self):
        for statements in WRONG_STATEMENTS:
            self.check_main_refused(statements, -3)

    def test_what_is_wrong_is_none_within_a_statement_that_is_never_come_to(self):
        for statements in WRONG_STATEMENTS:
            if statements.count("}") <= statements.count("{"):
                self.check_main_refused("if (0) { " + statements + " }", -3)

    def test_what_is_wrong_is_none_in_a_process_that_never_runs(self):
        self.check_refused("proc f() { skip } " + in_main(""), -3)
        self.check_refused(in_main("") + " proc f() { skip }", -3)

    def test_an_else_belongs_to_the_nearest_if(self):
        self.check_main("if (0) if (0) print 1; else print 2; print 3;", 3)
        self.check_main("if (1) if (0) print 1; else print 2; print 3;", 2, 3)
        self.check_main("if (0) { if (0) print 1; } else print 2;", 2)
        self.check_main("if (0) while (0) if (0) skip; else print 2; else print 4;", 4)


class Expressions(CallingTest):
    def test_wrong_expressions_at_each_place(self):
        places = (
            "print {};", "x = {};", "c ! {};", "if ({}) skip;", "while ({}) skip;", "run f(1, {});",
            "alt {{ ({}) & skip : skip; }}",
        )
        for expression in WRONG_EXPRESSIONS:
            for place in places:
                self.check_main_refused("int x; chan c; " + place.format(expression), -3)


class Programs(CallingTest):
    def test_wrong_programs(self):
        for source in WRONG_PROGRAMS:
            self.check_refused(source, -3)

    def test_wrong_parameters(self):
        for parameters in WRONG_PARAMETERS:
            self.check_refused(f"proc f({parameters}) {{ }} proc main() {{ }}", -3)
            self.check_refused(f"proc main() {{ }} proc f({parameters}) {{ }}", -3)

    def test_processes_stand_in_any_order(self):
        self.check_lines("proc main() { run f(); } proc f() { print 1; }", 1)
        self.check_lines("proc f() { print 1; } proc main() { run f(); } proc g() { }", 1)

    def test_right_parameters(self):
        for parameters in ("", "int x", "chan c", "int x, chan c", "chan c,chan d , int x", "int x, int y, int z"):
            self.check_lines(f"proc f({parameters}) {{ }} proc main() {{ print 1; }}", 1)

    def test_every_beginning_of_a_program_is_none(self):
        source = "proc f(int x, chan c) { if (x) c ! x; else alt { (1) & skip : { } } } proc main() { run f(1, c); }"
        for length in range(len(source)):
            self.check_refused(source[:length], -3)

    def test_a_text_of_any_single_byte_is_no_program(self):
        for code in range(256):
            self.check_refused(bytes([code]), -3)
