"""The machine of a set: the fewest states, numbered in the order in which words come to them."""

from sumsets.refusals import TooMany

WIDEST = 4
MOST_STATES = 64


# steps[s][letter] is the state behind s; ends[s] is 1 if s is an end, else 0.
# Nothing changes a machine once it is made, so places may share one.
class Machine:
    def __init__(self, width, ends, steps):
        self.width = width
        self.ends = ends
        self.steps = steps


# A set has just one least machine, so least machines are the same just if their sets are.
def same_machines(one, other):
    return one.width == other.width and one.ends == other.ends and one.steps == other.steps


# Whoever makes a set may reckon with states of any kind (numbers, tuples, None): nexts(state)
# lists those behind a state, by letters. most, if given, is how many may be met before any are merged.
def least_machine(width, start, nexts, is_end, most=None):
    return merged(walked(width, start, nexts, is_end, most))


# Shorter words come first, then lower letters, so that states are met in the order
# in which the machine's states are to be numbered.
def walked(width, start, nexts, is_end, most):
    numbers = {start: 0}
    found = [start]
    steps = []
    while len(steps) < len(found):
        row = []
        behind = nexts(found[len(steps)])
        for state in behind:
            if state not in numbers:
                if most is not None and len(found) >= most:
                    raise TooMany()
                numbers[state] = len(found)
                found.append(state)
            row.append(numbers[state])
        steps.append(row)
    return Machine(width, [1 if is_end(state) else 0 for state in found], steps)


# Groups only ever get finer, and words lead to every state of raw: so more than 64 groups
# are more than 64 states, whatever is still to be told apart.
def merged(raw):
    groups = raw.ends
    count = 0
    while True:
        groups = finer_groups(groups, raw.steps)
        finer_count = max(groups) + 1
        if finer_count > MOST_STATES:
            raise TooMany()
        if finer_count == count:
            return one_state_a_group(raw, groups)
        count = finer_count


# Groups are numbered by their first states, which keeps the order of the walk.
def finer_groups(groups, steps):
    numbers = {}
    finer = []
    for group, row in zip(groups, steps):
        future = (group, tuple([groups[state] for state in row]))
        finer.append(numbers.setdefault(future, len(numbers)))
    return finer


def one_state_a_group(raw, groups):
    ends = []
    steps = []
    for state, group in enumerate(groups):
        if group == len(steps):
            ends.append(raw.ends[state])
            steps.append([groups[after] for after in raw.steps[state]])
    return Machine(raw.width, ends, steps)
