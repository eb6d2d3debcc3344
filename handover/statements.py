"""The statements, and what each does as it begins."""

from handover.channels import send, take_if_sent, wait_to_take
from handover.expressions import ChannelName
from handover.refusals import NoStepLeft, WrongName
from handover.scopes import CELL


class Statement:
    def come_to(self, machine, task, frame):
        if machine.steps == 0:
            raise NoStepLeft()
        machine.steps -= 1
        self.begin(machine, task, frame)

    def come_to_in_list(self, machine, task, frame):
        task.things.append((self, frame))


# Also a declaration that stands neither in braces nor in a process.
class Skip(Statement):
    def begin(self, machine, task, frame):
        pass


class Stop(Statement):
    def begin(self, machine, task, frame):
        task.ready = False


# Stands for a statement whose first deed is to look up a name that's not there
# or is of the other kind.
class WrongStatement(Statement):
    def begin(self, machine, task, frame):
        raise WrongName()


class Assignment(Statement):
    def __init__(self, cell, expression):
        self.cell = cell
        self.expression = expression

    def begin(self, machine, task, frame):
        frame[self.cell] = self.expression.work_out(frame)


class Sending(Statement):
    def __init__(self, channel, expression):
        self.channel = channel
        self.expression = expression

    def begin(self, machine, task, frame):
        send(machine, task, frame[self.channel], self.expression.work_out(frame))


class Taking(Statement):
    def __init__(self, channel, cell):
        self.channel = channel
        self.cell = cell

    def begin(self, machine, task, frame):
        channel = frame[self.channel]
        if not take_if_sent(machine, channel, frame, self.cell):
            wait_to_take(task, channel, frame, self.cell, None)


class Printing(Statement):
    def __init__(self, expression):
        self.expression = expression

    def begin(self, machine, task, frame):
        machine.write_number(self.expression.work_out(frame))


class Running(Statement):
    def __init__(self, name, arguments):
        self.name = name
        self.arguments = arguments

    def begin(self, machine, task, frame):
        process = machine.processes.get(self.name)
        if process is None:
            raise WrongName()
        inner_frame = {}
        for place, pair in enumerate(zip(process.parameters, self.arguments)):
            if pair[0] == CELL:
                machine.make_cell(inner_frame, place, pair[1].work_out(frame))
            else:
                inner_frame[place] = channel_given(pair[1], frame)
        if len(process.parameters) != len(self.arguments):
            raise WrongName()
        task.things.append((process.body, inner_frame))


def channel_given(argument, frame):
    if not isinstance(argument, ChannelName):
        raise WrongName()
    return frame[argument.slot]


class Choice(Statement):
    def __init__(self, condition, chosen, otherwise):
        self.condition = condition
        self.chosen = chosen
        self.otherwise = otherwise

    def begin(self, machine, task, frame):
        if self.condition.work_out(frame) != 0:
            task.things.append((self.chosen, frame))
        else:
            task.things.append((self.otherwise, frame))


class Loop(Statement):
    def __init__(self, condition, repeated):
        self.condition = condition
        self.repeated = repeated

    def begin(self, machine, task, frame):
        if self.condition.work_out(frame) != 0:
            task.things.append((self, frame))
            task.things.append((self.repeated, frame))


class Braces(Statement):
    def __init__(self, listed):
        self.listed = listed

    def begin(self, machine, task, frame):
        task.things.append((self.listed, frame))


class Parallel(Statement):
    def __init__(self, statements):
        self.statements = statements

    def begin(self, machine, task, frame):
        if self.statements:
            machine.make_tasks(task, self.statements, frame)
            task.waits_for = len(self.statements)
            task.ready = False


class Alternative(Statement):
    def __init__(self, branches):
        self.branches = branches

    def begin(self, machine, task, frame):
        branches = [branch for branch in self.branches if branch.counts(frame)]
        for branch in branches:
            branch.look_up()
        for branch in branches:
            if branch.can_be_done(machine, frame):
                task.things.append((branch.statement, frame))
                return
        task.ready = False
        for branch in branches:
            wait_to_take(task, frame[branch.channel], frame, branch.cell, branch.statement)


# The statement is given to it when it has been read.
class Branch:
    def __init__(self, condition):
        self.condition = condition
        self.statement = None

    def counts(self, frame):
        return self.condition.work_out(frame) != 0


class SkipBranch(Branch):
    def look_up(self):
        pass

    def can_be_done(self, machine, frame):
        return True


# The slot of a name that's not there, or is of the other kind, is None: that
# goes wrong only where the condition holds.
class TakingBranch(Branch):
    def __init__(self, condition, channel, cell):
        Branch.__init__(self, condition)
        self.channel = channel
        self.cell = cell

    def look_up(self):
        if self.channel is None or self.cell is None:
            raise WrongName()

    # Where it can be, the number is taken at once.
    def can_be_done(self, machine, frame):
        return take_if_sent(machine, frame[self.channel], frame, self.cell)
