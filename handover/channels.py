"""How a number is handed over a channel, and who waits for it.

Who waits stands in a dict by the task's number, in the order in which they
began to wait; so one can also leave from the middle, as a task does that
waits by several channels.
"""


class Channel:
    def __init__(self):
        self.senders = {}
        self.takers = {}


class Sender:
    def __init__(self, task, number):
        self.task = task
        self.number = number


# The statement is the one that an alt goes on with, and None elsewhere.
class Taker:
    def __init__(self, task, frame, slot, statement):
        self.task = task
        self.frame = frame
        self.slot = slot
        self.statement = statement


def first_waiting(waiting):
    for task_number in waiting:
        return waiting[task_number]
    return None


def send(machine, task, channel, number):
    taker = first_waiting(channel.takers)
    if taker is None:
        channel.senders[task.number] = Sender(task, number)
        task.ready = False
        return
    stop_waiting_to_take(taker.task)
    taker.frame[taker.slot] = number
    if taker.statement is not None:
        taker.task.things.append((taker.statement, taker.frame))
    machine.make_ready(taker.task)


# Gives back whether there was one to take from.
def take_if_sent(machine, channel, frame, slot):
    sender = first_waiting(channel.senders)
    if sender is None:
        return False
    channel.senders.pop(sender.task.number)
    frame[slot] = sender.number
    machine.make_ready(sender.task)
    return True


# A channel that the task waits by already keeps its first entry: of the
# branches of one channel, a sender finds the first.
def wait_to_take(task, channel, frame, slot, statement):
    task.ready = False
    if task.number not in channel.takers:
        channel.takers[task.number] = Taker(task, frame, slot, statement)
        task.takes_from.append(channel)


def stop_waiting_to_take(task):
    for channel in task.takes_from:
        channel.takers.pop(task.number)
    task.takes_from = []
