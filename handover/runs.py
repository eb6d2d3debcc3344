"""The call of the package: a program is read and run."""

from handover.machines import Machine
from handover.programs import read_program
from handover.refusals import OutOfRange, Refusal, TooLong

LONGEST_TEXT = 65536
MOST_STEPS = 100000000
LARGEST_MOST = 1048576


def run(steps, most, text):
    try:
        written = written_by(steps, most, text)
    except Refusal as refusal:
        return [refusal.number]
    return [len(written)] + written


def written_by(steps, most, text):
    check_ranges(steps, most, text)
    machine = Machine(read_program(text), steps)
    machine.run_main()
    if len(machine.written) > most:
        raise TooLong()
    return machine.written


def check_ranges(steps, most, text):
    if len(text) > LONGEST_TEXT:
        raise OutOfRange()
    if not 0 <= steps <= MOST_STEPS:
        raise OutOfRange()
    if not 0 <= most <= LARGEST_MOST:
        raise OutOfRange()
