"""turn: the numbers of a row in another order."""

import itertools
import unittest

import helper
from helper import BEGIN, LARGEST_WHOLE, SAMPLES, answered, join, line, made, rest, turn, twos, wide


def taken_by(member, p):
    return lambda *row: member(*[row[place] for place in p])


class Members(unittest.TestCase):
    def test_every_width_and_every_order(self):
        for width, samples in SAMPLES.items():
            for make, member in samples[:3]:
                for p in itertools.permutations(range(width)):
                    machine = made(make(1), turn(0, 1, list(p)))
                    helper.check_set(self, machine, width, taken_by(member, p))

    def test_which_way_round(self):
        # x_1 = 1, x_2 = 2 and x_0 = 3 are a row of x, as x_p0 = x_1 comes first.
        calls = [
            line(1, [1, 0, 0], 1, 0), line(2, [0, 1, 0], 2, 0), line(3, [0, 0, 1], 3, 0),
            join(4, 1, 2, 8), join(5, 3, 4, 8),
        ]
        machine = made(*calls, turn(0, 5, [1, 2, 0]))
        members = [row for row in itertools.product(range(5), repeat=3) if helper.tells(machine, row)]
        self.assertEqual(members, [(3, 1, 2)])

    def test_large_rows_that_are_members(self):
        a = [3, 1, -1]
        for p in itertools.permutations(range(3)):
            rows = []
            for row in helper.rows_with_sum(a, 0, 20, 1):
                turned = [0, 0, 0]
                for place, x in zip(p, row):
                    turned[place] = x
                rows.append(tuple(turned))
            machine = made(line(1, a, 0, 0), turn(0, 1, list(p)))
            member = taken_by(lambda x, y, z: 3 * x + y == z, p)
            self.assertTrue(any(member(*row) for row in rows))
            helper.check_set(self, machine, 3, member, rows)

    def test_numbered_anew(self):
        plain = helper.whole(made(line(0, [1, -2], 1, 0)))
        turned = helper.whole(made(line(1, [1, -2], 1, 0), turn(0, 1, [1, 0])))
        self.assertEqual(turned, helper.whole(made(line(0, [-2, 1], 1, 0))))
        self.assertNotEqual(turned[1:], plain[1:])

    def test_made_in_other_ways_it_is_the_same_machine(self):
        a = [3, -2, 1, 5]
        for p in itertools.permutations(range(4)):
            turned = [0] * 4
            for place, f in zip(p, a):
                turned[place] = f
            self.assertEqual(
                helper.whole(made(rest(1, a, 2, 7), turn(0, 1, list(p)))), helper.whole(made(rest(0, turned, 2, 7)))
            )
        self.assertEqual(
            helper.whole(made(line(1, a, 2, 1), turn(2, 1, [2, 0, 3, 1]), turn(0, 2, [1, 3, 0, 2]))),
            helper.whole(made(line(0, a, 2, 1))),
        )

    def test_numbers_of_p_from_k_on_do_not_matter(self):
        plain = helper.whole(made(line(1, [3, -2], 4, 1), turn(0, 1, [1, 0])))
        for more in ([0], [2], [1, 1], [2147483647] * 8, [2, 3, 4, 5, 6, 7, 8, 9]):
            self.assertEqual(helper.whole(made(line(1, [3, -2], 4, 1), turn(0, 1, [1, 0] + more))), plain)
        for p in ([], [0], [5, 5], [2147483647] * 10):
            self.assertEqual(helper.whole(made(line(1, [], 0, 0), turn(0, 1, p))), (0, [1], [[0]]))

    def test_the_same_place(self):
        self.assertEqual(
            helper.whole(made(line(1, [3, -2], 4, 1), turn(1, 1, [1, 0]), at=1)),
            helper.whole(made(line(1, [3, -2], 4, 1), turn(0, 1, [1, 0]))),
        )

    def test_x_stays_as_it_was(self):
        desk = helper.desk_after(line(1, [3, -2], 4, 1))
        before = helper.held_by(desk)
        helper.answers_on(desk, turn(0, 1, [1, 0]))
        self.assertEqual(helper.held_by(desk)[1], before[1])

    def test_64_states_are_not_too_many(self):
        machine = made(line(1, [-5, 16], -458, 0), turn(0, 1, [1, 0]))
        self.assertEqual(len(machine.ends), 64)
        rows = list(helper.rows_with_sum([16, -5], -458, 9, 1))
        helper.check_set(self, machine, 2, lambda x, y: -5 * y + 16 * x == -458, rows)


class Refusals(unittest.TestCase):
    def test_no_place(self):
        for wrong in (8, 9, LARGEST_WHOLE):
            self.assertEqual(answered(twos(1), turn(wrong, 1, [0])), [0, -1])
            self.assertEqual(answered(twos(1), turn(0, wrong, [0])), [0, -1])

    def test_nothing_there(self):
        self.assertEqual(answered(turn(0, 0, [])), [-1])
        self.assertEqual(answered(twos(1), turn(1, 2, [0])), [0, -1])
        self.assertEqual(answered(twos(1), BEGIN, turn(0, 1, [0])), [0, 0, -1])

    def test_wrong_order(self):
        for width in range(1, 5):
            make = line(1, [1] * width, 3, 1)
            for p in itertools.product(range(width + 1), repeat=width):
                right = sorted(p) == list(range(width))
                self.assertEqual(answered(make, turn(0, 1, list(p))), [0, 0 if right else -2], p)
            for p in ([], list(range(width - 1)), [2147483647] * width, list(range(1, width + 1)) + [0]):
                self.assertEqual(answered(make, turn(0, 1, p)), [0, -2], p)

    def test_which_of_two_is_answered(self):
        self.assertEqual(answered(twos(1), turn(8, 1, [1])), [0, -1])
        self.assertEqual(answered(twos(1), turn(0, 2, [1])), [0, -1])

    def test_refused_calls_change_nothing(self):
        desk = helper.desk_after(twos(0), wide(1, 0, 0))
        before = helper.held_by(desk)
        for call in (turn(8, 1, [1, 0]), turn(0, 7, [0]), turn(0, 1, [1]), turn(1, 1, [0, 0]), turn(1, 1, [1, 2])):
            self.assertLess(helper.answers_on(desk, call)[1], 0)
            self.assertEqual(helper.held_by(desk), before)


if __name__ == "__main__":
    unittest.main()
