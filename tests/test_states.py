"""size, width, next and ends: what a set's machine is like, state by state."""

import unittest

import helper
from helper import (
    BEGIN,
    LARGEST_WHOLE,
    SAMPLES,
    answered,
    end_of,
    join,
    line,
    load,
    next_of,
    rest,
    saved,
    size_of,
    some,
    turn,
    twos,
    wide,
    width_of,
)
from sumsets.desk import answers

FULL = [twos(t) for t in range(8)]
BEYOND = (8, 9, 63, 64, 256, 2**31, LARGEST_WHOLE)


def every_machine():
    """Calls that make a set at place 0, and its machine."""
    for samples in SAMPLES.values():
        for make, member in samples:
            yield [make(0)], helper.read(saved(make(0)))
    others = [
        [rest(0, [1, 3, 5, 7], 0, 220)],
        [line(1, [3, 1, -1], 0, 0), some(0, 1, 0)],
        [twos(1), rest(2, [1], 1, 3), join(0, 1, 2, 8)],
        [twos(1), wide(0, 1, 0)],
        [line(1, [3, 1, -1], 0, 0), turn(0, 1, [1, 2, 0])],
    ]
    for calls in others:
        yield calls, helper.read(saved(*calls))
    for machine in helper.some_machines(20, 91):
        yield [load(0, helper.written(*machine))], machine


class Answers(unittest.TestCase):
    def test_by_hand(self):
        self.assertEqual(answers(twos(4) + size_of(4) + width_of(4)), [1, 0, 1, 3, 1, 1])
        steps = [next_of(0, s, a) for s in range(3) for a in range(2)]
        self.assertEqual(answered(twos(0), *steps), [0, 0, 1, 1, 2, 2, 2])
        self.assertEqual(answered(twos(0), *[end_of(0, s) for s in range(3)]), [0, 0, 1, 0])
        calls = [line(0, [1, 1, -1], 0, 0), size_of(0), width_of(0)]
        self.assertEqual(answered(*calls), [0, 3, 3])
        self.assertEqual(answered(*calls, *[next_of(0, 0, a) for a in range(8)])[3:], [0, 1, 1, 2, 1, 0, 0, 1])
        self.assertEqual(answered(*calls, *[next_of(0, 1, a) for a in range(8)])[3:], [1] * 8)
        self.assertEqual(answered(*calls, *[next_of(0, 2, a) for a in range(8)])[3:], [1, 2, 2, 1, 0, 1, 1, 2])
        self.assertEqual(answered(*calls, *[end_of(0, s) for s in range(3)])[3:], [1, 0, 0])

    def test_every_state_and_letter(self):
        for calls, machine in every_machine():
            states = range(len(machine.ends))
            letters = range(1 << machine.width)
            given = answered(*calls, size_of(0), width_of(0), *[end_of(0, s) for s in states])
            self.assertEqual(given[len(calls) :], [len(machine.ends), machine.width] + machine.ends)
            for s in states:
                given = answered(*calls, *[next_of(0, s, a) for a in letters])
                self.assertEqual(given[len(calls) :], machine.steps[s])

    def test_no_number_at_all(self):
        for c in (0, 1):
            calls = [line(0, [], c, 0), size_of(0), width_of(0), next_of(0, 0, 0), end_of(0, 0)]
            self.assertEqual(answered(*calls), [0, 1, 0, 0, 1 - c])

    def test_64_states(self):
        calls = [rest(0, [1], 0, 244), size_of(0), end_of(0, 63), end_of(0, 64), next_of(0, 64, 0)]
        self.assertEqual(answered(*calls)[:2] + answered(*calls)[3:], [0, 64, -2, -2])

    def test_size_and_width_of_each_width(self):
        for k in range(5):
            self.assertEqual(answered(rest(0, [1, 1, 1, 1][:k], 0, 1), size_of(0), width_of(0)), [0, 1, k])
            if k:
                self.assertEqual(answered(rest(0, [1, 1, 1, 1][:k], 0, 7), size_of(0), width_of(0)), [0, 7, k])

    def test_each_place_for_itself(self):
        calls = [line(t, [1, 1, 1, 1][: t % 5], t, 0) for t in range(8)]
        machines = [helper.read(saved(*calls, at=t)) for t in range(8)]
        for t in range(8):
            given = answered(*calls, size_of(t), width_of(t), end_of(t, 0), next_of(t, 0, 0))[8:]
            machine = machines[t]
            self.assertEqual(given, [len(machine.ends), machine.width, machine.ends[0], machine.steps[0][0]])


class Refusals(unittest.TestCase):
    def test_minus_1(self):
        for x in BEYOND:
            for call in (size_of(x), width_of(x), next_of(x, 0, 0), end_of(x, 0)):
                self.assertEqual(answered(*FULL, call)[-1], -1)
        for x in range(8):
            for call in (size_of(x), width_of(x), next_of(x, 0, 0), end_of(x, 0)):
                self.assertEqual(answered(call), [-1])
                self.assertEqual(answered(*[twos(t) for t in range(8) if t != x], call)[-1], -1)
                self.assertEqual(answered(*FULL, BEGIN, call)[-2:], [0, -1])

    def test_minus_2_of_next_and_ends(self):
        for calls, machine in every_machine():
            count, letters = len(machine.ends), 1 << machine.width
            for s in (count, count + 1, 64, 256, 2**62, LARGEST_WHOLE):
                if s >= count:
                    given = answered(*calls, end_of(0, s), next_of(0, s, 0), next_of(0, s, letters))
                    self.assertEqual(given[len(calls) :], [-2] * 3)
            for a in (letters, letters + 1, 16, 256, 2**62, LARGEST_WHOLE):
                if a >= letters:
                    given = answered(*calls, next_of(0, 0, a), next_of(0, count - 1, a), next_of(0, count, a))
                    self.assertEqual(given[len(calls) :], [-2] * 3)

    def test_minus_1_before_minus_2(self):
        for x in BEYOND + (3,):
            given = answered(twos(0), next_of(x, 3, 0), next_of(x, 0, 2), next_of(x, 9, 9), end_of(x, 3))
            self.assertEqual(given, [0, -1, -1, -1, -1])
        given = answered(next_of(LARGEST_WHOLE, LARGEST_WHOLE, LARGEST_WHOLE), end_of(0, LARGEST_WHOLE))
        self.assertEqual(given, [-1, -1])

    def test_change_nothing(self):
        desk = helper.desk_after(twos(0), line(3, [1, 2], 4, 1))
        before = helper.held_by(desk)
        for x in (0, 3, 5, 8):
            for call in (size_of(x), width_of(x), next_of(x, 0, 1), next_of(x, 99, 1), next_of(x, 0, 4), end_of(x, 99)):
                helper.answers_on(desk, call)
                self.assertEqual(helper.held_by(desk), before)


if __name__ == "__main__":
    unittest.main()
