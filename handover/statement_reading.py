"""How a statement is read, with all that stands within it."""

from handover.expression_reading import read_expression
from handover.expressions import Number
from handover.lists import CellDeclaration, ChannelDeclaration, list_of
from handover.readers import check_level
from handover.scopes import CELL, CHANNEL
from handover.statements import Alternative, Assignment, Braces, Choice, Loop, Parallel, Printing
from handover.statements import Running, Sending, Skip, SkipBranch, Stop, Taking, TakingBranch, WrongStatement


# Every call within a call is one level deeper, so there are few.
def read_statement(reader, level):
    check_level(level)
    start = reader.fixed()
    if start not in STARTS:
        return read_named(reader)
    reader.step_over()
    return STARTS[start](reader, level)


def read_named(reader):
    name = reader.expect_name()
    sign = reader.fixed()
    if sign == "=":
        statement = read_assignment(reader, name)
    elif sign == "!":
        statement = read_sending(reader, name)
    else:
        statement = read_taking(reader, name)
    reader.expect(";")
    return statement


def read_assignment(reader, name):
    reader.expect("=")
    cell = reader.scope.slot_of(name, CELL)
    expression = read_expression(reader)
    return WrongStatement() if cell is None else Assignment(cell, expression)


def read_sending(reader, name):
    reader.expect("!")
    channel = reader.scope.slot_of(name, CHANNEL)
    expression = read_expression(reader)
    return WrongStatement() if channel is None else Sending(channel, expression)


def read_taking(reader, name):
    channel = reader.scope.slot_of(name, CHANNEL)
    cell = read_taking_cell(reader)
    return WrongStatement() if channel is None or cell is None else Taking(channel, cell)


def read_taking_cell(reader):
    reader.expect("?")
    return reader.scope.slot_of(reader.expect_name(), CELL)


def read_lone_declaration(reader, level):
    reader.expect_name()
    reader.expect(";")
    return Skip()


def read_skip(reader, level):
    reader.expect(";")
    return Skip()


def read_stop(reader, level):
    reader.expect(";")
    return Stop()


def read_printing(reader, level):
    expression = read_expression(reader)
    reader.expect(";")
    return Printing(expression)


def read_running(reader, level):
    name = reader.expect_name()
    reader.expect("(")
    arguments = []
    if not reader.accept(")"):
        arguments.append(read_expression(reader))
        while reader.accept(","):
            arguments.append(read_expression(reader))
        reader.expect(")")
    reader.expect(";")
    return Running(name, arguments)


def read_condition(reader):
    reader.expect("(")
    condition = read_expression(reader)
    reader.expect(")")
    return condition


def read_choice(reader, level):
    condition = read_condition(reader)
    chosen = read_statement(reader, level + 1)
    if reader.accept("else"):
        return Choice(condition, chosen, read_statement(reader, level + 1))
    return Choice(condition, chosen, Skip())


def read_loop(reader, level):
    condition = read_condition(reader)
    return Loop(condition, read_statement(reader, level + 1))


def read_braces(reader, level):
    mark = reader.scope.mark()
    parts = []
    while not reader.accept("}"):
        if reader.fixed() == "int" or reader.fixed() == "chan":
            parts.append(read_declaration(reader, level + 1))
        else:
            parts.append(read_statement(reader, level + 1))
    reader.scope.leave(mark)
    return Braces(list_of(parts))


def read_declaration(reader, level):
    check_level(level)
    word = reader.step_over()
    name = reader.expect_name()
    reader.expect(";")
    if word == "int":
        return CellDeclaration(reader.scope.declare(name, CELL))
    return ChannelDeclaration(reader.scope.declare(name, CHANNEL))


def read_parallel(reader, level):
    reader.expect("{")
    statements = []
    while not reader.accept("}"):
        statements.append(read_statement(reader, level + 1))
    return Parallel(statements)


def read_alternative(reader, level):
    reader.expect("{")
    branches = []
    while not reader.accept("}"):
        branch = read_guard(reader)
        branch.statement = read_statement(reader, level + 1)
        branches.append(branch)
    return Alternative(branches)


# Gives back the branch without its statement, which stands behind the guard.
def read_guard(reader):
    condition = Number(1)
    if reader.fixed() == "(":
        condition = read_condition(reader)
        reader.expect("&")
    if reader.accept("skip"):
        branch = SkipBranch(condition)
    else:
        channel = reader.scope.slot_of(reader.expect_name(), CHANNEL)
        branch = TakingBranch(condition, channel, read_taking_cell(reader))
    reader.expect(":")
    return branch


STARTS = {
    "int": read_lone_declaration,
    "chan": read_lone_declaration,
    "skip": read_skip,
    "stop": read_stop,
    "print": read_printing,
    "run": read_running,
    "if": read_choice,
    "while": read_loop,
    "{": read_braces,
    "par": read_parallel,
    "alt": read_alternative,
}
