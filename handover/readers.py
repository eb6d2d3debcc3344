"""The tokens as they are gone through, one after another."""

from handover.refusals import NoProgram
from handover.scopes import Scope
from handover.tokens import END, FIXED, NAME, NUMBER

DEEPEST_LEVEL = 99


class Reader:
    def __init__(self, tokens):
        self.tokens = tokens
        self.place = 0
        self.scope = Scope()

    def at_end(self):
        return self.tokens[self.place][0] == END

    def at_number(self):
        return self.tokens[self.place][0] == NUMBER

    # The sign or kept word that stands here, and the empty text if it's neither.
    def fixed(self):
        token = self.tokens[self.place]
        return token[1] if token[0] == FIXED else ""

    def step_over(self):
        token = self.tokens[self.place]
        self.place += 1
        return token[1]

    def accept(self, fixed_text):
        if self.fixed() != fixed_text:
            return False
        self.place += 1
        return True

    def expect(self, fixed_text):
        if not self.accept(fixed_text):
            raise NoProgram()

    def expect_name(self):
        if self.tokens[self.place][0] != NAME:
            raise NoProgram()
        return self.step_over()


def check_level(level):
    if level > DEEPEST_LEVEL:
        raise NoProgram()
