"""The tasks, the row of those that are ready, and all that a run counts."""

from handover.channels import Channel
from handover.refusals import NotAllOver, TooMany

MOST_TASKS = 4096
MOST_CELLS = 1000000
MOST_CHANNELS = 1000000
MOST_BYTES = 1048576
MOST_THINGS = 512
NEWLINE = 10


# The things to be done are pairs of a statement, or what's left of a list of
# statements, and its frame; the first of them stands last.
class Task:
    def __init__(self, number, parent, statement, frame):
        self.number = number
        self.parent = parent
        self.things = [(statement, frame)]
        self.ready = True
        self.waits_for = 0
        self.takes_from = []


class Machine:
    def __init__(self, processes, steps):
        self.processes = processes
        self.steps = steps
        self.row = []
        self.tasks_made = 0
        self.tasks_over = 0
        self.cells_made = 0
        self.channels_made = 0
        self.written = []

    def run_main(self):
        self.make_tasks(None, [self.processes["main"].body], {})
        while self.row:
            self.go_on(self.row.pop(0))
        if self.tasks_over < self.tasks_made:
            raise NotAllOver()

    def go_on(self, task):
        things = task.things
        while things:
            if len(things) > MOST_THINGS:
                raise TooMany()
            thing = things.pop()
            thing[0].come_to(self, task, thing[1])
            if not task.ready:
                return
        self.finish(task)

    def finish(self, task):
        self.tasks_over += 1
        parent = task.parent
        if parent is not None:
            parent.waits_for -= 1
            if parent.waits_for == 0:
                self.make_ready(parent)

    def make_ready(self, task):
        task.ready = True
        self.row.append(task)

    def make_tasks(self, parent, statements, frame):
        if self.tasks_made + len(statements) > MOST_TASKS:
            raise TooMany()
        for statement in statements:
            self.tasks_made += 1
            self.row.append(Task(self.tasks_made, parent, statement, frame))

    def make_cell(self, frame, slot, number):
        if self.cells_made == MOST_CELLS:
            raise TooMany()
        self.cells_made += 1
        frame[slot] = number

    def make_channel(self, frame, slot):
        if self.channels_made == MOST_CHANNELS:
            raise TooMany()
        self.channels_made += 1
        frame[slot] = Channel()

    def write_number(self, number):
        codes = [ord(sign) for sign in str(number)]
        codes.append(NEWLINE)
        if len(self.written) + len(codes) > MOST_BYTES:
            raise TooMany()
        self.written.extend(codes)
