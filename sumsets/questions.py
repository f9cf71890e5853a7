"""What can be asked of a set: its next states, its ends and its members."""

from sumsets.refusals import WrongArgument


def next_state(machine, state, letter):
    check_state(machine, state)
    if letter >= 1 << machine.width:
        raise WrongArgument()
    return machine.steps[state][letter]


def end_at(machine, state):
    check_state(machine, state)
    return machine.ends[state]


def check_state(machine, state):
    if state >= len(machine.steps):
        raise WrongArgument()


# The row's shortest word is read: zeros behind it wouldn't change what the machine says.
def has_row(machine, row):
    if len(row) != machine.width:
        raise WrongArgument()
    state = 0
    for place in range(max([number.bit_length() for number in row], default=0)):
        state = machine.steps[state][letter_at(row, place)]
    return machine.ends[state]


def letter_at(row, place):
    letter = 0
    for bit, number in enumerate(row):
        letter = letter | (((number >> place) & 1) << bit)
    return letter
