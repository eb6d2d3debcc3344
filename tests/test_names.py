from tests.calling import CallingTest, in_main


class Declarations(CallingTest):
    def test_a_cell_is_0_at_first(self):
        self.check_main("int x; print x;", 0)

    def test_a_new_cell_whenever_it_is_come_to(self):
        self.check_main("int i; while (i < 2) { int x; print x; x = 7; print x; i = i + 1; }", 0, 7, 0, 7)

    def test_what_stands_behind_sees_it(self):
        self.check_main_refused("x = 1; int x;", -11)
        self.check_main("int x; x = 1; { print x; int x; print x; x = 2; print x; } print x;", 1, 0, 2, 1)
        self.check_main_refused("int i; while (i < 2) { if (i) print x; int x; i = i + 1; }", -11)

    def test_the_last_of_the_same_name_is_seen(self):
        self.check_main("int x; x = 1; int x; print x; x = 2; print x;", 0, 2)
        self.check_main("int x; x = 1; { int x; x = 2; { int x; x = 3; print x; } print x; } print x;", 3, 2, 1)

    def test_a_name_may_change_its_kind(self):
        self.check_main("chan x; int x; x = 4; print x;", 4)
        self.check_main("int x; int y; chan x; par { x ! 4; x ? y; } print y;", 4)
        self.check_main("int x; int y; x = 3; { chan x; par { x ! 4; x ? y; } } print x + y;", 7)
        self.check_main_refused("int x; chan x; print x;", -11)
        self.check_main_refused("chan x; int x; x ! 1;", -11)

    def test_a_name_ends_with_its_braces(self):
        self.check_main_refused("{ int x; } print x;", -11)
        self.check_main_refused("if (1) { int x; } x = 1;", -11)
        self.check_main_refused("{ chan c; } c ! 1;", -11)

    def test_elsewhere_a_declaration_does_nothing(self):
        self.check_main_refused("if (1) int x; print x;", -11)
        self.check_main("int x; x = 5; if (1) int x; print x;", 5)
        self.check_main("int x; x = 5; if (0) skip; else int x; print x;", 5)
        self.check_main("int x; x = 5; if (1) chan x; print x;", 5)
        self.check_main("int x; x = 1; while (x) { x = x - 1; } while (0) int x; print x;", 0)
        self.check_main("int x; x = 5; alt { skip : int x; } print x;", 5)

    def test_the_braces_of_par_make_nothing(self):
        self.check_main_refused("par { int x; x = 1; }", -11)
        self.check_main_refused("par { chan c; c ! 1; }", -11)
        self.check_main("int x; x = 5; par { int x; print x; x = 6; } print x;", 5, 6)
        self.check_main("int x; x = 5; par { chan x; print x; }", 5)
        self.check_main("int x; x = 5; par { { int x; print x; } print x; }", 0, 5)

    def test_a_process_makes_them(self):
        self.check_lines("proc f() { int x; x = 3; print x; } " + in_main("run f();"), 3)

    def test_cells_are_shared_by_all_who_see_them(self):
        self.check_main("int x; par { x = x + 1; { x = x + 10; { x = x + 100; } } par { x = x + 1000; } } print x;", 1111)

    def test_each_task_makes_its_own_within(self):
        self.check_main("par { { int x; x = x + 1; print x; } { int x; x = x + 2; print x; } }", 1, 2)

    def test_a_task_sees_the_names_as_they_were_where_it_stands(self):
        self.check_main("int x; x = 1; par { { x = 2; int x; x = 9; } print x; } print x;", 2, 2)

    def test_a_taker_has_the_number_in_the_cell_it_saw(self):
        self.check_main("chan c; int x; par { { int x; c ? x; print x; } c ! 8; } print x;", 8, 0)
        self.check_main("chan c; int x; int i; while (i < 2) { int x; par { c ? x; c ! i + 5; } print x; i = i + 1; } print x;",
                        5, 6, 0)

    def test_a_new_channel_whenever_it_is_come_to(self):
        self.check_main("int i; int x; while (i < 2) { chan c; par { c ! i; c ? x; } print x; i = i + 1; }", 0, 1)

    def test_two_channels_of_one_name_are_two(self):
        self.check_main_refused("chan c; int x; par { c ! 1; { chan c; c ? x; } }", -6)


class Processes(CallingTest):
    def test_sees_its_parameters_alone(self):
        self.check_refused("proc f() { print x; } " + in_main("int x; run f();"), -11)
        self.check_refused("proc f() { c ! 1; } " + in_main("chan c; run f();"), -11)
        self.check_refused("proc f(int a) { print x; } " + in_main("int x; run f(x);"), -11)

    def test_an_int_is_a_new_cell_with_the_number(self):
        self.check_lines("proc f(int a) { a = a + 1; print a; } " + in_main("int a; a = 4; run f(a); print a;"), 5, 4)
        self.check_lines("proc f(int a, int b) { print a - b; } " + in_main("int a; int b; a = 1; run f(b, a); run f(7 * 2, 3);"),
                         -1, 11)

    def test_a_chan_is_the_channel_of_the_name(self):
        self.check_lines("proc f(chan d) { d ! 6; } " + in_main("chan c; int x; par { run f(c); c ? x; } print x;"), 6)
        self.check_lines("proc f(chan d, chan c) { d ! 1; c ! 2; } "
                         + in_main("chan c; chan d; int x; par { run f(c, d); { c ? x; print x; d ? x; print x; } }"), 1, 2)
        self.check_lines("proc f(chan c) { run g(c); } proc g(chan c) { c ! 3; } "
                         + in_main("chan c; int x; par { run f(c); c ? x; } print x;"), 3)

    def test_brackets_around_a_channel_do_not_count(self):
        self.check_lines("proc f(chan d) { d ! 6; } " + in_main("chan c; int x; par { run f(((c))); c ? x; } print x;"), 6)

    def test_two_names_of_one_channel(self):
        self.check_lines("proc f(chan a, chan b) { int x; par { a ! 5; b ? x; } print x; } " + in_main("chan c; run f(c, c);"), 5)

    def test_parameters_may_be_hidden(self):
        self.check_lines("proc f(int a) { print a; int a; print a; } " + in_main("run f(3);"), 3, 0)
        self.check_lines("proc f(int a) { { int a; a = 1; } print a; } " + in_main("run f(3);"), 3)

    def test_the_last_parameter_of_the_same_name_is_seen(self):
        self.check_lines("proc f(int a, int a) { print a; } " + in_main("run f(1, 2);"), 2)
        self.check_lines("proc f(chan a, int a) { print a; } " + in_main("chan c; run f(c, 2);"), 2)

    def test_a_process_may_be_called_like_a_cell(self):
        self.check_lines("proc f(int f) { print f; } " + in_main("int f; f = 2; run f(f);"), 2)

    def test_a_process_runs_itself(self):
        self.check_lines("proc f(int n) { if (n > 0) { print n; run f(n - 1); print n; } } " + in_main("run f(2);"), 2, 1, 1, 2)
        self.check_refused(in_main("print 1; run main();"), -5, steps=30)

    def test_what_comes_behind_goes_on_afterwards(self):
        self.check_lines("proc f() { print 1; } " + in_main("run f(); print 2; run f();"), 1, 2, 1)


class GoingWrong(CallingTest):
    def test_a_name_that_is_not_there(self):
        for statement in (
            "nowhere = 1;", "print nowhere;", "nowhere ! 1;", "nowhere ? x;", "c ? nowhere;", "c ! nowhere;",
            "if (nowhere) skip;", "while (nowhere) skip;", "run f(nowhere, c);", "run f(1, nowhere);", "run nowhere();",
            "alt { nowhere ? x : skip; }", "alt { c ? nowhere : skip; }", "alt { (nowhere) & skip : skip; }",
            "x = -nowhere;", "x = !nowhere;", "x = (nowhere);",
        ):
            self.check_refused("proc f(int a, chan b) { } " + in_main("int x; chan c; " + statement), -11)

    def test_a_name_of_the_other_kind(self):
        for statement in (
            "c = 1;", "print c;", "x ! 1;", "x ? x;", "c ? c;", "c ! c;", "if (c) skip;", "while (c) skip;",
            "run f(c, c);", "run f(1, x);", "alt { x ? x : skip; }", "alt { c ? c : skip; }", "alt { (c) & skip : skip; }",
            "x = x + c;", "print (c);", "print -c;",
        ):
            self.check_refused("proc f(int a, chan b) { } " + in_main("int x; chan c; " + statement), -11)

    def test_only_where_it_is_come_to(self):
        self.check_main("if (0) nowhere = 1; while (0) print nowhere; print 1;", 1)
        self.check_lines("proc f() { nowhere ! 1; } " + in_main("if (0) run f(); if (0) run nowhere(); print 1;"), 1)

    def test_a_process_name_is_no_cell_and_the_other_way(self):
        self.check_refused("proc f() { } " + in_main("print f;"), -11)
        self.check_main_refused("int f; run f();", -11)

    def test_arguments_that_are_not_as_many(self):
        for arguments in ("", "1", "1, c, 2", "1, c, c", "1, c, 2, 3"):
            self.check_refused("proc f(int a, chan b) { } " + in_main(f"chan c; run f({arguments});"), -11)
        self.check_refused("proc f() { } " + in_main("run f(1);"), -11)
        self.check_refused("proc f(int a) { } " + in_main("run f();"), -11)
        self.check_main_refused("run main(1);", -11)

    def test_for_a_chan_something_else_than_a_name(self):
        for argument in ("1", "-c", "!c", "c + c", "c + 1", "(1)", "(c + c)", "(-c)", "c && c", "0 && c"):
            self.check_refused("proc f(chan b) { } " + in_main(f"chan c; run f({argument});"), -11)

    def test_for_a_chan_nothing_is_worked_out(self):
        self.check_refused("proc f(chan b) { } " + in_main("run f(1 / 0);"), -11)

    def test_the_name_is_looked_up_before_the_expression(self):
        self.check_main_refused("nowhere = 1 / 0;", -11)
        self.check_main_refused("chan c; c = 1 / 0;", -11)
        self.check_main_refused("nowhere ! 1 / 0;", -11)
        self.check_main_refused("int x; x ! 1 / 0;", -11)
        self.check_main_refused("int x; x = 1 / 0;", -12)
        self.check_main_refused("chan c; c ! 1 / 0;", -12)

    def test_the_process_is_looked_for_first(self):
        self.check_main_refused("run nowhere(1 / 0);", -11)

    def test_arguments_come_one_by_one(self):
        f = "proc f(int a, chan b, int c) { } "
        self.check_refused(f + in_main("chan c; run f(1 / 0);"), -12)
        self.check_refused(f + in_main("chan c; run f(1 / 0, 1, 2);"), -12)
        self.check_refused(f + in_main("chan c; run f(1, c, 1 / 0, 4);"), -12)
        self.check_refused(f + in_main("chan c; run f(1, c, 3, 1 / 0);"), -11)
        self.check_refused(f + in_main("chan c; run f(1, 2, 1 / 0);"), -11)
        self.check_refused(f + in_main("chan c; run f(1, nowhere, 1 / 0);"), -11)
        self.check_refused(f + in_main("chan c; run f(nowhere, c, 1 / 0);"), -11)
        self.check_refused("proc f() { } " + in_main("run f(1 / 0);"), -11)

    def test_takers_look_up_both_names_before_they_wait(self):
        self.check_main_refused("chan c; c ? nowhere;", -11)
        self.check_main_refused("int x; nowhere ? x;", -11)
