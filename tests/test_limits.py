from tests.calling import LARGEST_MOST, CallingTest, answer, answer_of_lines, in_main


class Steps(CallingTest):
    def test_how_many_each_statement_is(self):
        for statements, steps in (
            ("", 1), ("skip;", 2), ("int x;", 1), ("chan c;", 1), ("int x; chan c; int y;", 1), ("int x; x = 1;", 2),
            ("print 1;", 2), ("{ }", 2), ("{ int x; skip; }", 3), ("{ { } { } }", 4),
            ("if (1) skip;", 3), ("if (0) skip;", 3), ("if (0) skip; else skip;", 3), ("if (1) { }", 3),
            ("if (1) int x;", 3), ("if (0) skip; else chan c;", 3), ("if (0) skip; else if (0) skip;", 4),
            ("while (0) skip;", 2), ("int i; while (i < 3) i = i + 1;", 8), ("int i; while (i < 3) { int x; i = i + 1; }", 11),
            ("par { }", 2), ("par { skip; }", 3), ("par { skip; skip; }", 4), ("par { int x; chan c; }", 4),
            ("par { { } par { } }", 4),
            ("alt { skip : skip; }", 3), ("alt { (0) & skip : skip; skip : { } }", 3), ("alt { skip : int x; }", 3),
            ("chan c; int x; par { c ! 1; c ? x; }", 4), ("chan c; int x; par { c ? x; c ! 1; }", 4),
            ("chan c; int x; par { c ! 1; alt { c ? x : skip; } }", 5), ("chan c; int x; par { alt { c ? x : skip; } c ! 1; }", 5),
        ):
            self.check_steps(in_main(statements), steps)

    def test_a_process_that_is_run(self):
        self.check_steps("proc f() { } " + in_main("run f();"), 3)
        self.check_steps("proc f(int a, chan b) { int c; } " + in_main("chan c; run f(1, c);"), 3)
        self.check_steps("proc f() { skip; } " + in_main("run f(); run f();"), 7)

    def test_no_step_is_left(self):
        self.check_refused(in_main(""), -5, steps=0)
        self.check_refused(in_main("while (1) skip;"), -5, steps=100000)
        self.check_refused(in_main("while (1) { }"), -5, steps=99999)
        self.check_refused(in_main("chan c; int x; par { while (1) c ! 1; while (1) c ? x; }"), -5, steps=10001)

    def test_declarations_in_braces_need_no_step(self):
        self.assertEqual(answer(in_main("int x; chan c; int y;"), steps=1), [0])

    def test_a_statement_does_nothing_where_no_step_is_left(self):
        self.check_refused(in_main("print 1 / 0;"), -5, steps=1)
        self.check_refused(in_main("nowhere = 1;"), -5, steps=1)
        self.check_refused(in_main("par { " + "skip; " * 4096 + "}"), -5, steps=1)
        self.check_refused(in_main("stop;"), -5, steps=1)
        self.check_refused(in_main("stop;"), -6, steps=2)

    def test_the_last_step_is_used(self):
        self.assertEqual(answer(in_main("print 4;"), steps=2), answer_of_lines(4))
        self.check_refused(in_main("print 4;"), -5, steps=1)
        self.check_refused(in_main("print 1 / 0;"), -12, steps=2)
        self.check_refused(in_main("print nowhere;"), -11, steps=2)


class Most(CallingTest):
    def test_just_reached_and_passed_by_one(self):
        for statements, length in (("", 0), ("print 1;", 2), ("print -10;", 4), ("print 1; print 22;", 5)):
            with self.subTest(statements=statements):
                self.assertEqual(answer(in_main(statements), most=length)[0], length)
                if length > 0:
                    self.assertEqual(answer(in_main(statements), most=length - 1), [-1])
                    self.assertEqual(answer(in_main(statements), most=0), [-1])

    def test_the_run_goes_on_behind_it(self):
        self.check_refused(in_main("print 1; print 1 / 0;"), -12, most=0)
        self.check_refused(in_main("print 1; nowhere = 1;"), -11, most=0)
        self.check_refused(in_main("print 1; while (1) skip;"), -5, steps=100, most=0)
        self.check_refused(in_main("print 1; stop;"), -6, most=0)


class Tasks(CallingTest):
    def test_all_at_once(self):
        self.check_main("par { " + "skip;" * 4095 + "}")
        self.check_main_refused("par { " + "skip;" * 4096 + "}", -13)
        self.check_main_refused("par { " + "skip;" * 9000 + "}", -13)

    def test_one_after_another(self):
        rounds = "int i; while (i < {}) {{ par {{ skip; }} i = i + 1; }}"
        self.check_main(rounds.format(4095))
        self.check_main_refused(rounds.format(4096), -13)

    def test_par_without_any_makes_none(self):
        self.check_main("int i; while (i < 5000) { par { } i = i + 1; }")

    def test_statements_of_one_par_count_at_once(self):
        many = "par { " + "skip;" * 4093 + "} "
        self.check_main(many + "par { print 1; print 2; }", 1, 2)
        self.check_main_refused(many + "par { print 1 / 0; print 2; print 3; }", -13)

    def test_a_process_run_makes_none(self):
        self.check_lines("proc f() { } " + in_main("int i; while (i < 5000) { run f(); i = i + 1; }"))

    def test_many_wait_for_one_channel(self):
        self.check_main("chan c; int x; par { " + "c ! 1;" * 2047 + "c ? x;" * 2047 + "} print x;", 1)
        self.check_main("chan c; int x; par { " + "c ? x;" * 2047 + "c ! 1;" * 2047 + "} print x;", 1)


class Things(CallingTest):
    # With n, the if in the last run of f is come to with n + 3 things to be done.
    def test_processes_within_processes(self):
        f = "proc f(int n) { if (n > 0) run f(n - 1); } "
        self.check_lines(f + in_main("run f(509); print 1;"), 1)
        self.check_refused(f + in_main("run f(510); print 1;"), -13)
        self.check_refused("proc f() { run f(); } " + in_main("run f();"), -13)

    def test_a_list_stays_though_nothing_is_left_in_it(self):
        f = "proc f(int n) { if (n > 0) run f(n - 1); {} } "
        self.check_lines(f + in_main("run f(509);"))
        self.check_refused(f + in_main("run f(510);"), -13)

    def test_an_empty_list_may_be_the_512th(self):
        f = "proc g() { } proc f(int n) { if (n > 0) run f(n - 1); else run g(); } "
        self.check_lines(f + in_main("run f(509);"))
        self.check_refused(f + in_main("run f(510);"), -13)
        f = "proc g() { skip; } proc f(int n) { if (n > 0) run f(n - 1); else run g(); } "
        self.check_lines(f + in_main("run f(508);"))
        self.check_refused(f + in_main("run f(509);"), -13)

    def test_declarations_are_just_taken_out(self):
        f = "proc g() { int a; chan b; } proc f(int n) { if (n > 0) run f(n - 1); else run g(); } "
        self.check_lines(f + in_main("run f(509);"))

    def test_a_while_stays_behind_its_statement(self):
        f = "proc f(int n) { while (n > 0) { int m; m = n; n = 0; run f(m - 1); } } "
        # Each run adds a list, a while and the list in it.
        self.check_lines(f + in_main("run f(169);"))
        self.check_refused(f + in_main("run f(170);"), -13)

    def test_alt_puts_its_statement_alone(self):
        f = "proc f(int n) { alt { (n > 0) & skip : run f(n - 1); skip : skip; } } "
        self.check_lines(f + in_main("run f(509);"))
        self.check_refused(f + in_main("run f(510);"), -13)

    def test_a_statement_of_par_begins_without_those_around(self):
        f = "proc f(int n) { if (n > 0) par { run f(n - 1); } } "
        self.check_lines(f + in_main("run f(4000); print 1;"), 1)

    def test_each_task_has_its_own(self):
        f = "proc f(int n, chan c) { if (n > 0) run f(n - 1, c); else c ! 1; } "
        self.check_lines(f + in_main("chan c; int x; par { { run f(508, c); } { run f(508, c); } { c ? x; c ? x; } }"))
        # By itself in a par, run has no list behind it.
        self.check_lines(f + in_main("chan c; int x; par { run f(510, c); c ? x; }"))
        self.check_refused(f + in_main("chan c; int x; par { run f(511, c); c ? x; }"), -13)

    def test_too_many_comes_ahead_of_no_step(self):
        f = "proc f(int n) { if (n > 0) run f(n - 1); } "
        # Main and its run, three for each run but the last, whose braces have no if begun.
        used = 2 + 3 * 510 + 1
        self.check_refused(f + in_main("run f(510);"), -13, steps=used)
        self.check_refused(f + in_main("run f(510);"), -5, steps=used - 1)


class Cells(CallingTest):
    # Makes 999,000 of that kind, and one cell more for i.
    def many(self, word):
        return f"int i; while (i < 999) {{ {f'{word} a; ' * 1000} i = i + 1; }} "

    def test_cells(self):
        self.check_main(self.many("int") + "int a; " * 999)
        self.check_main_refused(self.many("int") + "int a; " * 1000, -13)

    def test_channels(self):
        self.check_main(self.many("chan") + "chan a; " * 1000)
        self.check_main_refused(self.many("chan") + "chan a; " * 1001, -13)

    def test_cells_and_channels_count_apart(self):
        self.check_main(self.many("int") + "int a; " * 999 + "chan c; " * 1000)

    def test_an_int_parameter_is_a_cell(self):
        f = "proc f(int a, int b) { } "
        self.check_lines(f + in_main(self.many("int") + "int a; " * 997 + "run f(1, 2);"))
        self.check_refused(f + in_main(self.many("int") + "int a; " * 998 + "run f(1, 2);"), -13)

    def test_parameters_are_made_one_by_one(self):
        f = "proc f(int a, int b) { } "
        full = self.many("int") + "int a; " * 999
        self.check_refused(f + in_main(full + "run f(1, 1 / 0);"), -13)
        self.check_refused(f + in_main(full + "run f(1 / 0, 1);"), -12)
        self.check_refused(f + in_main(full + "run f(1);"), -13)

    def test_a_chan_parameter_is_no_new_channel(self):
        f = "proc f(chan a) { } "
        self.check_lines(f + in_main(self.many("chan") + "chan a; " * 1000 + "run f(a);"))

    def test_declarations_elsewhere_make_none(self):
        self.check_main(self.many("int") + "int a; " * 999 + "if (1) int a; par { int b; }")
        self.check_main(self.many("chan") + "chan a; " * 1000 + "if (1) chan a; par { chan b; }")


class Bytes(CallingTest):
    # Twelve bytes 87,381 times, and four more: 1,048,576.
    MANY = "int i; int m; m = -2147483647 - 1; while (i < 87381) { print m; i = i + 1; } print 100; "

    def test_so_many_and_no_more(self):
        self.check_refused(in_main(self.MANY), -1, most=LARGEST_MOST - 1)
        self.check_refused(in_main(self.MANY), -1, most=0)
        self.check_refused(in_main(self.MANY + "print 1;"), -13)
        self.check_refused(in_main(self.MANY + "print 1;"), -13, most=0)
        self.check_refused(in_main(self.MANY.replace("100", "1000")), -13)

    def test_the_longest_answer_that_is_asked(self):
        source = in_main("int i; int m; m = -2147483647 - 1; while (i < 83333) { print m; i = i + 1; } print 10;")
        expected = answer_of_lines(*([-2147483648] * 83333), 10)
        self.assertEqual(len(expected), 1000000)
        self.assertEqual(answer(source, most=999999), expected)
        self.assertEqual(answer(source, most=999998), [-1])
