"""How a whole program is read: its processes, by their names."""

from handover.readers import Reader
from handover.refusals import NoProgram
from handover.scopes import CELL, CHANNEL, Scope
from handover.statement_reading import read_braces
from handover.tokens import read_tokens


# A parameter is its kind alone: its slot is its place among the parameters.
class Process:
    def __init__(self, parameters, body):
        self.parameters = parameters
        self.body = body


def read_program(text):
    reader = Reader(read_tokens(text))
    processes = {}
    while not reader.at_end():
        reader.expect("proc")
        name = reader.expect_name()
        if name in processes:
            raise NoProgram()
        processes[name] = read_process(reader)
    if "main" not in processes or processes["main"].parameters:
        raise NoProgram()
    return processes


def read_process(reader):
    reader.scope = Scope()
    parameters = read_parameters(reader)
    reader.expect("{")
    return Process(parameters, read_braces(reader, 0))


def read_parameters(reader):
    parameters = []
    reader.expect("(")
    if reader.accept(")"):
        return parameters
    parameters.append(read_parameter(reader))
    while reader.accept(","):
        parameters.append(read_parameter(reader))
    reader.expect(")")
    return parameters


def read_parameter(reader):
    kind = CELL
    if not reader.accept("int"):
        reader.expect("chan")
        kind = CHANNEL
    reader.scope.declare(reader.expect_name(), kind)
    return kind
