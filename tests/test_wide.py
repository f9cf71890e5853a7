"""wide: a number more, which may be any."""

import unittest

import helper
from helper import BEGIN, LARGEST_WHOLE, SAMPLES, answered, join, line, made, rest, some, twos, wide


def without(member, i):
    return lambda *row: member(*row[:i], *row[i + 1 :])


class Members(unittest.TestCase):
    def test_every_width_and_every_number(self):
        for width in range(4):
            for make, member in SAMPLES[width]:
                for i in range(width + 1):
                    machine = made(make(1), wide(0, 1, i))
                    helper.check_set(self, machine, width + 1, without(member, i))

    def test_large_rows_that_are_members(self):
        for i in range(3):
            rows = [row[:i] + (more,) + row[i:] for row in helper.rows_with_sum([3, -5], 2, 9, 1) for more in (0, 2**199)]
            member = without(lambda x, y: 3 * x - 5 * y == 2, i)
            helper.check_set(self, made(line(1, [3, -5], 2, 0), wide(0, 1, i)), 3, member, rows)

    def test_width_0_and_up_to_4(self):
        calls = [line(0, [], 0, 0)]
        for width in range(1, 5):
            calls.append(wide(0, 0, width - 1))
            self.assertEqual(helper.whole(made(*calls)), (width, [1], [[0] * (1 << width)]))

    def test_machine_written_out(self):
        self.assertEqual(
            helper.whole(made(twos(1), wide(0, 1, 0))), (2, [0, 1, 0], [[0, 0, 1, 1], [1, 1, 2, 2], [2, 2, 2, 2]])
        )
        self.assertEqual(
            helper.whole(made(twos(1), wide(0, 1, 1))), (2, [0, 1, 0], [[0, 1, 0, 1], [1, 2, 1, 2], [2, 2, 2, 2]])
        )

    def test_the_same_place(self):
        self.assertEqual(
            helper.whole(made(twos(1), wide(1, 1, 0), at=1)), helper.whole(made(twos(1), wide(0, 1, 0)))
        )

    def test_x_stays_as_it_was(self):
        desk = helper.desk_after(twos(1))
        before = helper.held_by(desk)
        helper.answers_on(desk, wide(0, 1, 1))
        self.assertEqual(helper.held_by(desk)[1], before[1])

    def test_made_in_other_ways_it_is_the_same_machine(self):
        self.assertEqual(
            helper.whole(made(rest(1, [1, 2], 0, 5), wide(0, 1, 1))), helper.whole(made(rest(0, [1, 0, 2], 0, 5)))
        )
        self.assertEqual(helper.whole(made(twos(1), wide(2, 1, 0), some(0, 2, 0))), helper.whole(made(twos(0))))

    def test_64_states_are_not_too_many(self):
        calls = [rest(1, [1], 0, 244)]
        for width in range(1, 4):
            calls.append(wide(1, 1, 0))
            machine = made(*calls, at=1)
            self.assertEqual(len(machine.ends), 64)
            rows = [(7,) * width + (244 * x,) for x in range(9)]
            helper.check_set(self, machine, width + 1, lambda *row: row[-1] % 244 == 0, rows)


class Refusals(unittest.TestCase):
    def test_no_place(self):
        for wrong in (8, 9, LARGEST_WHOLE):
            self.assertEqual(answered(twos(1), wide(wrong, 1, 0)), [0, -1])
            self.assertEqual(answered(twos(1), wide(0, wrong, 0)), [0, -1])

    def test_nothing_there(self):
        self.assertEqual(answered(wide(0, 0, 0)), [-1])
        self.assertEqual(answered(twos(1), wide(1, 2, 0)), [0, -1])
        self.assertEqual(answered(twos(1), BEGIN, wide(0, 1, 0)), [0, 0, -1])

    def test_wrong_number(self):
        for width in range(4):
            make = line(1, [1] * width, 3, 1)
            for i in (width + 1, width + 2, 64, LARGEST_WHOLE):
                self.assertEqual(answered(make, wide(0, 1, i)), [0, -2])
            for i in (0, width):
                self.assertEqual(answered(make, wide(0, 1, i)), [0, 0])

    def test_width_4(self):
        for i in (0, 1, 4, 5, LARGEST_WHOLE):
            self.assertEqual(answered(line(1, [1] * 4, 3, 1), wide(0, 1, i)), [0, -2])

    def test_which_of_two_is_answered(self):
        self.assertEqual(answered(twos(1), wide(8, 1, 9)), [0, -1])
        self.assertEqual(answered(twos(1), wide(0, 2, 9)), [0, -1])

    def test_refused_calls_change_nothing(self):
        desk = helper.desk_after(twos(0), line(1, [1] * 4, 3, 1), join(2, 0, 0, 1))
        before = helper.held_by(desk)
        for call in (wide(8, 0, 0), wide(0, 7, 0), wide(0, 0, 2), wide(1, 1, 0), wide(0, 1, 0)):
            self.assertLess(helper.answers_on(desk, call)[1], 0)
            self.assertEqual(helper.held_by(desk), before)


if __name__ == "__main__":
    unittest.main()
