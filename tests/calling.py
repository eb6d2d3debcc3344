"""How the tests call the program: with a program as text or bytes."""

import unittest

from handover.runs import run

MANY_STEPS = 100000000
LARGEST_MOST = 1048576


def codes_of(source):
    if isinstance(source, str):
        source = source.encode("latin-1")
    return list(source)


def answer(source, steps=MANY_STEPS, most=LARGEST_MOST):
    return run(steps, most, codes_of(source))


def in_main(statements):
    return "proc main() { " + statements + " }"


def answer_of_lines(*numbers):
    codes = codes_of("".join(f"{number}\n" for number in numbers))
    return [len(codes)] + codes


class CallingTest(unittest.TestCase):
    def check_lines(self, source, *numbers):
        with self.subTest(source=source[:200]):
            self.assertEqual(answer(source), answer_of_lines(*numbers))

    def check_main(self, statements, *numbers):
        self.check_lines(in_main(statements), *numbers)

    def check_refused(self, source, number, steps=MANY_STEPS, most=LARGEST_MOST):
        with self.subTest(source=source[:200], number=number):
            self.assertEqual(answer(source, steps, most), [number])

    def check_main_refused(self, statements, number):
        self.check_refused(in_main(statements), number)

    def check_value(self, expression, number):
        self.check_main(f"print {expression};", number)

    # Just so many steps are enough, and one less is not.
    def check_steps(self, source, steps):
        with self.subTest(source=source[:200], steps=steps):
            self.assertEqual(answer(source, steps), answer(source))
            self.assertGreaterEqual(answer(source)[0], 0)
            self.assertEqual(answer(source, steps - 1), [-5])
