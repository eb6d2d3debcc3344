from tests.calling import CallingTest, in_main


class Plain(CallingTest):
    def test_print(self):
        self.check_main("print 0; print -1; print 2147483647; print -2147483647 - 1;", 0, -1, 2147483647, -2147483648)

    def test_nothing_written(self):
        self.check_main("")
        self.check_main("skip;")

    def test_assignment(self):
        self.check_main("int x; x = 4; print x; x = x + x; print x;", 4, 8)

    def test_if(self):
        self.check_main("if (1) print 1; if (0) print 2; if (-1) print 3; if (0) print 4; else print 5; if (2) print 6; else print 7;",
                        1, 3, 5, 6)

    def test_while(self):
        self.check_main("int i; while (i < 3) { print i; i = i + 1; } print 9;", 0, 1, 2, 9)
        self.check_main("while (0) print 1; print 2;", 2)
        self.check_main("int i; i = -2; while (i) i = i + 1; print i;", 0)

    def test_braces(self):
        self.check_main("{ print 1; { } { print 2; } } print 3;", 1, 2, 3)

    def test_stop(self):
        self.check_main_refused("print 1; stop; print 2;", -6)
        self.check_main_refused("par { stop; print 2; }", -6)
        self.check_main_refused("par { { print 2; stop; } { } }", -6)


class Par(CallingTest):
    def test_in_their_order(self):
        self.check_main("par { print 1; { print 2; print 3; } print 4; } print 5;", 1, 2, 3, 4, 5)

    def test_without_any_it_goes_on(self):
        self.check_main("par { } print 1;", 1)
        # It does not even go behind the others.
        self.check_main("par { { par { } print 1; } print 2; }", 1, 2)

    def test_with_one_it_waits(self):
        self.check_main("par { { par { skip; } print 1; } print 2; }", 2, 1)

    def test_new_tasks_go_behind_the_others(self):
        self.check_main("par { par { print 1; print 2; } print 3; par { print 4; print 5; } print 6; }", 3, 6, 1, 2, 4, 5)

    def test_who_has_them_goes_behind_the_others(self):
        self.check_main("par { { par { print 1; } print 2; } { par { print 3; } print 4; } { print 5; } }", 5, 1, 3, 2, 4)

    def test_who_has_them_waits_for_all(self):
        self.check_main("chan c; int x; par { { par { c ? x; print 1; } print 2; } { print 3; c ! 1; print 4; } }", 3, 1, 4, 2)
        self.check_main("chan c; int x; par { { par { { print 1; } { c ? x; } } print 2; } { c ! 1; print 4; } }", 1, 4, 2)

    def test_one_that_is_not_over_keeps_the_rest_waiting(self):
        self.check_main_refused("par { stop; skip; } print 1 / 0;", -6)
        self.check_main_refused("chan c; par { c ! 1; } print 1 / 0;", -6)

    def test_par_by_itself_in_par(self):
        self.check_main("par { par { par { print 1; } } print 2; } print 3;", 2, 1, 3)


class Handing(CallingTest):
    def test_the_taker_waits(self):
        self.check_main("chan c; int x; par { { c ? x; print x; } { c ! 5; print 6; } }", 6, 5)

    def test_the_sender_waits(self):
        self.check_main("chan c; int x; par { { c ! 5; print 6; } { c ? x; print x; } }", 5, 6)

    def test_the_number_is_worked_out_as_the_sender_begins(self):
        self.check_main("chan c; int x; int y; x = 1; par { c ! x; x = 2; { c ? y; print y; } }", 1)

    def test_the_number_is_there_as_soon_as_it_is_sent(self):
        self.check_main("chan c; int x; par { c ? x; { c ! 5; print x; } }", 5)

    def test_a_ready_one_goes_behind_the_others(self):
        self.check_main("chan c; int x; par { { c ? x; print 1; } c ! 0; print 3; }", 3, 1)
        self.check_main("chan c; int x; par { { c ! 0; print 1; } c ? x; print 3; }", 3, 1)

    def test_senders_in_the_order_they_began_to_wait(self):
        self.check_main("chan c; int x; par { c ! 1; c ! 2; c ! 3; { c ? x; print x; c ? x; print x; c ? x; print x; } }", 1, 2, 3)

    def test_takers_in_the_order_they_began_to_wait(self):
        self.check_main("chan c; int x; int y; par { { c ? x; print x * 10 + 1; } { c ? y; print y * 10 + 2; } { c ! 1; c ! 2; } }",
                        11, 22)

    def test_one_that_waits_again_goes_to_the_end(self):
        self.check_main("chan c; int x; par { { c ! 1; c ! 2; } { c ! 3; c ! 4; } "
                        "{ int i; while (i < 4) { c ? x; print x; i = i + 1; } } }", 1, 3, 2, 4)

    def test_a_task_goes_on_till_it_is_not_ready(self):
        self.check_main("chan c; int x; par { { c ? x; print x; c ? x; print x; } { c ! 1; print 9; c ! 2; print 8; } }", 9, 1, 2, 8)

    def test_channels_are_apart(self):
        self.check_main("chan c; chan d; int x; par { c ! 1; d ! 2; { d ? x; print x; c ? x; print x; } }", 2, 1)

    def test_a_lone_task_waits_for_ever(self):
        self.check_main_refused("chan c; c ! 1;", -6)
        self.check_main_refused("chan c; int x; c ? x;", -6)
        self.check_main_refused("chan c; int x; par { c ! 1; c ! 1; c ? x; }", -6)
        self.check_main_refused("chan c; int x; par { c ? x; c ! 1; c ? x; }", -6)

    def test_a_row_of_processes(self):
        self.check_lines(
            "proc add(chan a, chan b) { int x; int i; while (i < 3) { a ? x; b ! x + 1; i = i + 1; } } "
            + in_main("chan p; chan q; chan r; int i; int y; par { run add(p, q); run add(q, r); "
                      "while (i < 3) { p ! i * 10; i = i + 1; } "
                      "{ r ? y; print y; r ? y; print y; r ? y; print y; } }"), 2, 12, 22)


class Alt(CallingTest):
    def test_a_sender_waits_already(self):
        self.check_main("chan c; int x; par { { c ! 4; print 1; } alt { c ? x : print x; } print 2; }", 4, 2, 1)

    def test_the_first_branch_with_a_sender(self):
        self.check_main("chan c; chan d; int x; par { c ! 1; d ! 2; { alt { d ? x : print x; c ? x : print -x; } c ? x; } }", 2)
        self.check_main("chan c; chan d; chan e; int x; par { d ! 2; c ! 1; "
                        "{ alt { e ? x : print 0; c ? x : print -x; d ? x : print x; } d ? x; } }", -1)

    def test_skip_is_done_where_it_is_the_first(self):
        self.check_main("chan c; int x; alt { c ? x : print 1; skip : print 2; }", 2)
        self.check_main("alt { skip : print 1; skip : print 2; }", 1)
        self.check_main("chan c; int x; par { c ! 3; { alt { skip : print 2; c ? x : print x; } c ? x; } }", 2)
        self.check_main("chan c; int x; par { c ! 3; alt { c ? x : print x; skip : print 2; } }", 3)

    def test_conditions(self):
        self.check_main("alt { (0) & skip : print 1; (2) & skip : print 2; skip : print 3; }", 2)
        self.check_main("chan c; int x; par { c ! 3; alt { (0) & c ? x : print 1; (x == 0) & c ? x : print x; } }", 3)
        self.check_main("chan c; int x; par { { alt { (0) & c ? x : print 1; (-1) & c ? x : print x; } } c ! 3; }", 3)

    def test_it_waits_and_goes_on_with_the_branch_of_the_channel(self):
        for channel, number in (("c", 11), ("d", 12), ("e", 13)):
            self.check_main("chan c; chan d; chan e; int x; par { alt { c ? x : print x + 1; d ? x : print x + 2; "
                            "e ? x : print x + 3; } " + channel + " ! 10; }", number)

    def test_each_branch_has_a_cell_of_its_own(self):
        self.check_main("chan c; chan d; int x; int y; par { alt { c ? x : skip; d ? y : skip; } d ! 7; } print x; print y;", 0, 7)

    def test_a_sender_finds_the_first_of_its_channel(self):
        self.check_main("chan c; chan d; int x; int y; par { alt { d ? y : print 1; c ? x : print 2; c ? y : print 3; } c ! 7; }"
                        " print x; print y;", 2, 7, 0)
        self.check_lines("proc f(chan a, chan b) { int x; int y; alt { a ? x : print 1; b ? y : print 2; } print x; } "
                         + in_main("chan c; par { run f(c, c); c ! 9; }"), 1, 9)

    def test_conditions_hold_while_it_waits(self):
        self.check_main_refused("chan c; int x; par { alt { (x) & c ? x : skip; } { x = 1; c ! 1; } }", -6)
        self.check_main("chan c; chan d; int x; int y; y = 1; "
                        "par { alt { (y) & c ? x : print x; d ? x : skip; } { y = 0; c ! 5; } }", 5)

    def test_it_waits_by_the_others_no_more(self):
        self.check_main_refused("chan c; chan d; int x; par { { alt { c ? x : skip; d ? x : skip; } } { c ! 1; d ! 2; } }", -6)
        self.check_main("chan c; chan d; int x; int y; par { { alt { c ? x : print x; d ? x : print -x; } } "
                        "{ d ? y; print y; } { c ! 1; d ! 2; } }", 1, 2)

    def test_it_waits_anew_each_time(self):
        self.check_main("chan c; chan d; int x; int i; par { while (i < 4) { alt { c ? x : print x; d ? x : print -x; } i = i + 1; } "
                        "{ c ! 1; d ! 2; d ! 3; c ! 4; } }", 1, -2, -3, 4)

    def test_in_the_order_with_other_takers(self):
        self.check_main("chan c; int x; int y; par { alt { c ? x : print 1; } { c ? y; print 2; } { c ! 0; c ! 0; } }", 1, 2)
        self.check_main("chan c; int x; int y; par { { c ? y; print 2; } alt { c ? x : print 1; } { c ! 0; c ! 0; } }", 2, 1)

    def test_one_that_left_and_came_back_stands_at_the_end(self):
        self.check_main("chan c; chan d; int x; int y; par { { alt { d ? x : skip; c ? x : print 8; } alt { c ? x : print 1; } } "
                        "{ c ? y; print 2; } d ! 0; { par { skip; } c ! 0; c ! 0; } }", 2, 1)

    def test_without_branches_it_is_stopped(self):
        self.check_main_refused("alt { }", -6)
        self.check_main_refused("alt { (0) & skip : skip; }", -6)
        self.check_main_refused("chan c; int x; par { alt { (0) & c ? x : skip; } c ! 1; }", -6)

    def test_none_comes(self):
        self.check_main_refused("chan c; int x; alt { c ? x : skip; }", -6)

    def test_all_conditions_come_ahead_of_all_names(self):
        self.check_main_refused("chan c; int x; alt { nowhere ? x : skip; (1 / 0) & skip : skip; }", -12)
        self.check_main_refused("alt { skip : skip; (1 / 0) & skip : skip; }", -12)
        self.check_main_refused("alt { (nowhere) & skip : skip; (1 / 0) & skip : skip; }", -11)

    def test_names_of_all_that_count_are_looked_up(self):
        self.check_main_refused("chan c; int x; alt { skip : skip; nowhere ? x : skip; }", -11)
        self.check_main_refused("chan c; int x; alt { skip : skip; c ? nowhere : skip; }", -11)
        self.check_main_refused("chan c; int x; par { c ! 1; alt { c ? x : skip; x ? x : skip; } }", -11)

    def test_names_of_those_that_do_not_count_are_not(self):
        self.check_main("chan c; int x; alt { (0) & nowhere ? x : skip; (0) & c ? nowhere : skip; skip : print 1; }", 1)

    def test_the_statement_sees_the_number(self):
        self.check_main("chan c; int x; par { c ! 6; alt { c ? x : { int y; y = x; print y; } } }", 6)
