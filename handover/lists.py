"""What is left of a list of statements in braces, and its declarations."""


class EmptyList:
    def come_to(self, machine, task, frame):
        pass


class ListLeft:
    def __init__(self, part, rest):
        self.part = part
        self.rest = rest

    def come_to(self, machine, task, frame):
        task.things.append((self.rest, frame))
        self.part.come_to_in_list(machine, task, frame)


class CellDeclaration:
    def __init__(self, slot):
        self.slot = slot

    def come_to_in_list(self, machine, task, frame):
        machine.make_cell(frame, self.slot, 0)


class ChannelDeclaration:
    def __init__(self, slot):
        self.slot = slot

    def come_to_in_list(self, machine, task, frame):
        machine.make_channel(frame, self.slot)


def list_of(parts):
    left = EmptyList()
    for part in reversed(parts):
        left = ListLeft(part, left)
    return left
