"""The bytes of a set: how its machine is written down and read back."""

from sumsets.machine import MOST_STATES, WIDEST, Machine, least_machine, same_machines
from sumsets.refusals import WrongArgument

# The width and the number of states stand before the states.
HEAD = 3


def bytes_of_set(machine):
    made = [machine.width]
    made.extend(two_bytes(len(machine.steps)))
    for end, row in zip(machine.ends, machine.steps):
        made.append(end)
        for state in row:
            made.extend(two_bytes(state))
    return made


# Bytes are those of a set just if the machine that they write down tells one and is this set's
# own: then making the least machine from it changes nothing.
def set_of_bytes(given):
    size = checked_size(given)
    machine = machine_written(given, size)
    if not is_machine(machine) or not tells_set(machine):
        raise WrongArgument()
    if not same_machines(machine, least_form(machine)):
        raise WrongArgument()
    return machine


def checked_size(given):
    if len(given) < HEAD or given[0] > WIDEST:
        raise WrongArgument()
    size = number_at(given, 1)
    if size < 1 or size > MOST_STATES or len(given) != HEAD + size * bytes_of_state(given[0]):
        raise WrongArgument()
    return size


def machine_written(given, size):
    width = given[0]
    ends = []
    steps = []
    for state in range(size):
        at = HEAD + state * bytes_of_state(width)
        ends.append(given[at])
        steps.append([number_at(given, at + 1 + 2 * letter) for letter in range(1 << width)])
    return Machine(width, ends, steps)


def is_machine(machine):
    size = len(machine.steps)
    if any([end > 1 for end in machine.ends]):
        return False
    return all([max(row) < size for row in machine.steps])


# The words of a row differ by zeros at their ends alone: these mustn't change what is said of it.
def tells_set(machine):
    return all([machine.ends[row[0]] == end for end, row in zip(machine.ends, machine.steps)])


def least_form(machine):
    return least_machine(
        machine.width,
        0,
        lambda state: machine.steps[state],
        lambda state: machine.ends[state] == 1,
    )


def bytes_of_state(width):
    return 1 + (2 << width)


def two_bytes(number):
    return [number % 256, number // 256]


def number_at(given, at):
    return given[at] + 256 * given[at + 1]
