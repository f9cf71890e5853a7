"""The desk: eight places for sets, and the calls that are made on them."""

from sumsets.logic import join_sets, some_set, turn_set, wide_set
from sumsets.machine import same_machines
from sumsets.questions import end_at, has_row, next_state
from sumsets.refusals import NoPlace, TooMany, WrongArgument
from sumsets.saved import bytes_of_set, set_of_bytes
from sumsets.sums import line_set, rest_set, twos_set

LAST_PLACE = 7


class Desk:
    def __init__(self):
        self.held = {}

    def empty(self):
        self.held = {}

    def check_place(self, place):
        if place > LAST_PLACE:
            raise NoPlace()

    def machine_at(self, place):
        if place not in self.held:
            raise NoPlace()
        return self.held[place]

    def put(self, place, machine):
        self.held[place] = machine


# Each call takes the desk, its whole numbers and its row, and gives back what is answered.
# Places are checked first and a set is put last, so a refusal leaves the desk as it was.
def do_begin(desk, numbers, row):
    desk.empty()
    return [0]


def do_line(desk, numbers, row):
    desk.check_place(numbers[0])
    desk.put(numbers[0], line_set(numbers[1], row, numbers[2], numbers[3]))
    return [0]


def do_rest(desk, numbers, row):
    desk.check_place(numbers[0])
    desk.put(numbers[0], rest_set(numbers[1], row, numbers[2], numbers[3]))
    return [0]


def do_twos(desk, numbers, row):
    desk.check_place(numbers[0])
    desk.put(numbers[0], twos_set())
    return [0]


def do_join(desk, numbers, row):
    desk.check_place(numbers[0])
    one = desk.machine_at(numbers[1])
    other = desk.machine_at(numbers[2])
    desk.put(numbers[0], join_sets(one, other, numbers[3]))
    return [0]


def do_some(desk, numbers, row):
    desk.check_place(numbers[0])
    desk.put(numbers[0], some_set(desk.machine_at(numbers[1]), numbers[2]))
    return [0]


def do_wide(desk, numbers, row):
    desk.check_place(numbers[0])
    desk.put(numbers[0], wide_set(desk.machine_at(numbers[1]), numbers[2]))
    return [0]


def do_turn(desk, numbers, row):
    desk.check_place(numbers[0])
    desk.put(numbers[0], turn_set(desk.machine_at(numbers[1]), row))
    return [0]


def do_load(desk, numbers, row):
    desk.check_place(numbers[0])
    desk.put(numbers[0], set_of_bytes(row))
    return [0]


def do_save(desk, numbers, row):
    made = bytes_of_set(desk.machine_at(numbers[0]))
    return [0, len(made)] + made


def do_size(desk, numbers, row):
    return [len(desk.machine_at(numbers[0]).steps)]


def do_width(desk, numbers, row):
    return [desk.machine_at(numbers[0]).width]


def do_next(desk, numbers, row):
    return [next_state(desk.machine_at(numbers[0]), numbers[1], numbers[2])]


def do_ends(desk, numbers, row):
    return [end_at(desk.machine_at(numbers[0]), numbers[1])]


def do_has(desk, numbers, row):
    return [has_row(desk.machine_at(numbers[0]), row)]


def do_same(desk, numbers, row):
    one = desk.machine_at(numbers[0])
    other = desk.machine_at(numbers[1])
    return [1 if same_machines(one, other) else 0]


# By a call's number: what does it, how many whole numbers it has, and whether a row follows.
CALLS = (
    (do_begin, 0, False),
    (do_line, 4, True),
    (do_rest, 4, True),
    (do_twos, 1, False),
    (do_join, 4, False),
    (do_some, 3, False),
    (do_wide, 3, False),
    (do_turn, 2, True),
    (do_load, 1, True),
    (do_save, 1, False),
    (do_size, 1, False),
    (do_width, 1, False),
    (do_next, 3, False),
    (do_ends, 2, False),
    (do_has, 1, True),
    (do_same, 2, False),
)


def answers(calls):
    return answers_on(Desk(), calls)


def answers_on(desk, calls):
    given = []
    at = 0
    while at < len(calls):
        call = CALLS[calls[at]]
        at += 1
        numbers = calls[at:at + call[1]]
        at += call[1]
        row = []
        if call[2]:
            row = calls[at + 1:at + 1 + calls[at]]
            at += 1 + len(row)
        answer = answer_or_refusal(desk, call[0], numbers, row)
        given.append(len(answer))
        given.extend(answer)
    return given


def answer_or_refusal(desk, action, numbers, row):
    try:
        return action(desk, numbers, row)
    except NoPlace:
        return [-1]
    except WrongArgument:
        return [-2]
    except TooMany:
        return [-7]
