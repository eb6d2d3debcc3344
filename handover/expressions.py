"""The expressions, each of which is worked out in a frame.

A frame is a dict of what one run of a process made: a number for each slot of
a cell, a channel for each slot of a channel.
"""

from handover.operators import wrap
from handover.refusals import WrongName


class Number:
    def __init__(self, number):
        self.number = number

    def work_out(self, frame):
        return self.number


class CellName:
    def __init__(self, slot):
        self.slot = slot

    def work_out(self, frame):
        return frame[self.slot]


class ChannelName:
    def __init__(self, slot):
        self.slot = slot

    def work_out(self, frame):
        raise WrongName()


class UnknownName:
    def work_out(self, frame):
        raise WrongName()


class Negative:
    def __init__(self, inner):
        self.inner = inner

    def work_out(self, frame):
        return wrap(-self.inner.work_out(frame))


class Denial:
    def __init__(self, inner):
        self.inner = inner

    def work_out(self, frame):
        return 1 if self.inner.work_out(frame) == 0 else 0


# An operand and all operators that have it at the far left, from the inside
# out: left sides may be nested as deep as the text is long, so a loop goes
# through them. Right sides are nested no deeper than the levels allow.
class Chain:
    def __init__(self, first, links):
        self.first = first
        self.links = links

    def work_out(self, frame):
        result = self.first.work_out(frame)
        for operator, right in self.links:
            result = operator(result, right, frame)
        return result
