import io
import unittest
from contextlib import redirect_stderr, redirect_stdout

from handover.runs import run
from tests.calling import CallingTest, answer, answer_of_lines, codes_of, in_main

ENDLESS = in_main("while (1) skip;")


class Ranges(CallingTest):
    def test_steps(self):
        for steps in (-1, 100000001, -2147483648, 2147483647):
            self.check_refused(in_main(""), -2, steps=steps)
        self.check_refused(in_main(""), -5, steps=0)
        self.assertEqual(answer(in_main(""), steps=1), [0])
        self.assertEqual(answer(in_main("print 3;"), steps=100000000), answer_of_lines(3))

    def test_most(self):
        for most in (-1, 1048577, -2147483648, 2147483647):
            self.check_refused(in_main(""), -2, most=most)
        self.assertEqual(answer(in_main(""), most=0), [0])
        self.assertEqual(answer(in_main("print 3;"), most=1048576), answer_of_lines(3))

    def test_length_of_the_text(self):
        source = in_main("print 3;")
        self.assertEqual(answer(source.ljust(65536)), answer_of_lines(3))
        self.assertEqual(answer(source + "#" * (65536 - len(source))), answer_of_lines(3))
        self.check_refused(" " * 65536, -3)
        self.check_refused(source.ljust(65537), -2)
        self.check_refused("", -3)


class WhichRefusal(CallingTest):
    def test_ranges_ahead_of_no_program(self):
        self.check_refused("no program", -2, steps=-1)
        self.check_refused("no program", -2, most=-1)
        self.check_refused("", -2, steps=100000001)
        self.check_refused("", -2, most=1048577)
        self.check_refused("x" * 65537, -2)

    def test_no_program_ahead_of_the_run(self):
        self.check_refused(in_main("print 1 / 0; ;"), -3)
        self.check_refused(in_main("nowhere = 1; skip"), -3)
        self.check_refused(in_main("stop; skip") + "}", -3)
        self.check_refused(in_main("skip"), -3, steps=0)
        self.check_refused(in_main("print 1; skip"), -3, most=0)
        self.check_refused(in_main("print 1 / 0;") + " proc main() { }", -3)

    def test_of_those_of_the_run_the_first_that_comes(self):
        many_tasks = "par { " + "skip; " * 4096 + "} "
        wrong = (("nowhere = 1; ", -11), ("print 1 / 0; ", -12), (many_tasks, -13), ("while (1) skip; ", -5))
        for first, number in wrong:
            for second, other_number in wrong:
                self.check_refused(in_main(first + second), number, steps=1000)

    def test_the_first_that_comes_in_the_order_of_the_tasks(self):
        self.check_main_refused("par { print 1 / 0; nowhere = 1; }", -12)
        self.check_main_refused("par { nowhere = 1; print 1 / 0; }", -11)
        self.check_main_refused("chan c; int x; par { { c ? x; nowhere = 1; } { c ! 1; print 1 / 0; } }", -12)

    def test_ahead_of_not_all_over(self):
        self.check_main_refused("par { stop; nowhere = 1; }", -11)
        self.check_main_refused("par { stop; print 1 / 0; }", -12)
        self.check_refused(in_main("par { stop; while (1) skip; }"), -5, steps=1000)

    def test_not_all_over_ahead_of_too_long(self):
        self.check_refused(in_main("print 1; stop;"), -6, most=0)
        self.check_refused(in_main("print 1; stop;"), -6, most=1)
        self.check_refused(in_main("print 1; stop;"), -6, most=2)


class EachCallByItself(CallingTest):
    SOURCES = (
        in_main("int x; x = x + 1; print x; chan c; par { c ! 4; c ? x; } print x;"),
        "proc f(int a) { print a; } " + in_main("run f(1); par { run f(2); run f(3); }"),
        in_main("print 1 / 0;"), in_main("nowhere = 1;"), in_main("stop;"), "no program", "",
        in_main("par { " + "skip; " * 4096 + "}"), in_main("par { " + "skip; " * 4095 + "}"), ENDLESS,
    )

    def test_a_second_call_answers_as_the_first(self):
        first = [answer(source, steps=10000, most=100) for source in self.SOURCES]
        self.assertEqual([answer(source, steps=10000, most=100) for source in self.SOURCES], first)
        backwards = [answer(source, steps=10000, most=100) for source in reversed(self.SOURCES)]
        self.assertEqual(list(reversed(backwards)), first)

    def test_processes_of_an_earlier_call_are_gone(self):
        answer("proc f() { } " + in_main("run f();"))
        self.check_main_refused("run f();", -11)

    def test_an_answer_that_is_changed_changes_no_other(self):
        for source in self.SOURCES:
            before = answer(source, steps=10000)
            copy = list(before)
            before.clear()
            self.assertEqual(answer(source, steps=10000), copy)


class WatchedList(list):
    def fail(self, *arguments):
        raise AssertionError("what was handed in is changed")

    __setitem__ = __delitem__ = __iadd__ = __imul__ = fail
    append = extend = insert = pop = remove = clear = reverse = sort = fail


class WhatIsHandedIn(CallingTest):
    def test_is_as_it_was(self):
        for source in EachCallByItself.SOURCES:
            text = codes_of(source)
            run(10000, 100, text)
            self.assertEqual(text, codes_of(source))

    def test_is_not_changed_for_a_while_either(self):
        for source in EachCallByItself.SOURCES:
            self.assertEqual(run(10000, 100, WatchedList(codes_of(source))), answer(source, steps=10000, most=100))


class WhatIsGivenBack(unittest.TestCase):
    def test_is_a_list_of_whole_numbers(self):
        for source in EachCallByItself.SOURCES:
            given = answer(source, steps=10000, most=100)
            self.assertIs(type(given), list)
            self.assertEqual({type(number) for number in given}, {int})
            self.assertEqual(len(given), 1 + max(given[0], 0))

    def test_is_new_each_time(self):
        text = codes_of(in_main("print 1;"))
        self.assertIsNot(run(100, 100, text), run(100, 100, text))

    def test_names_of_the_arguments(self):
        self.assertEqual(run(steps=10, most=10, text=codes_of(in_main("print 1;"))), answer_of_lines(1))

    def test_nothing_is_printed(self):
        out = io.StringIO()
        with redirect_stdout(out), redirect_stderr(out):
            for source in EachCallByItself.SOURCES:
                answer(source, steps=10000)
        self.assertEqual(out.getvalue(), "")
