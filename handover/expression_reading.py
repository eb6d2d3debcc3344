"""How an expression is read."""

from handover.expressions import CellName, Chain, ChannelName, Denial, Negative, Number, UnknownName
from handover.operators import OPERATORS, TIGHTNESS
from handover.readers import check_level
from handover.scopes import CELL, CHANNEL


def read_expression(reader):
    return read_tighter(reader, 0, 0)


# Reads on as long as the operators bind tighter than the one that stands
# before. Every call within a call is one level deeper, so there are few.
def read_tighter(reader, level, tightness):
    first = read_operand(reader, level)
    links = []
    while TIGHTNESS.get(reader.fixed(), 0) > tightness:
        sign = reader.step_over()
        links.append((OPERATORS[sign], read_tighter(reader, level + 1, TIGHTNESS[sign])))
    return Chain(first, links) if links else first


def read_operand(reader, level):
    check_level(level)
    if reader.accept("-"):
        return Negative(read_operand(reader, level + 1))
    if reader.accept("!"):
        return Denial(read_operand(reader, level + 1))
    if reader.accept("("):
        inner = read_tighter(reader, level + 1, 0)
        reader.expect(")")
        return inner
    if reader.at_number():
        return Number(reader.step_over())
    return name_operand(reader.scope, reader.expect_name())


def name_operand(scope, name):
    cell = scope.slot_of(name, CELL)
    if cell is not None:
        return CellName(cell)
    channel = scope.slot_of(name, CHANNEL)
    if channel is not None:
        return ChannelName(channel)
    return UnknownName()
