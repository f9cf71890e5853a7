"""some: the rows for which there's a number."""

import math
import random
import unittest

import helper
from helper import BEGIN, LARGEST_C, LARGEST_WHOLE, answered, join, line, made, rest, some, turn, twos, wide

# A set with 1,024 bundles if its second number is left out, and one with 1,025.
FEWER_BUNDLES = [
    line(1, [6, -6], 4, 1), rest(2, [-5, 3], 5, 11), join(1, 1, 2, 7), rest(2, [0, 3], 4, 8), join(1, 1, 2, 2),
]
MORE_BUNDLES = [line(1, [-2, 6], -5, 1), rest(2, [-1, 1], 10, 26), join(1, 1, 2, 4)]


def line_without(a, c, kind, i):
    """Whether there's a number i that makes the sum as told, reckoned from the sum of the others."""
    others = a[:i] + a[i + 1 :]
    f = a[i]

    def member(*row):
        left = c - helper.weighed(others, row)
        if kind == 0:
            return left == 0 if f == 0 else left % f == 0 and left // f >= 0
        if kind == 1:
            return f < 0 or left >= 0
        return f != 0 or left != 0

    return member


def rest_without(a, c, m, i):
    others = a[:i] + a[i + 1 :]
    return lambda *row: (c - helper.weighed(others, row)) % math.gcd(a[i], m) == 0


def tried(member, i, most):
    """Whether one of the first numbers makes a member: for small rows, of which most(their sum) is enough."""
    return lambda *row: any(member(*row[:i], x, *row[i:]) for x in range(most(sum(row))))


class Members(unittest.TestCase):
    def test_lines_of_every_width(self):
        source = random.Random(41)
        for number in range(250):
            width = source.randrange(1, 5)
            a = [source.randrange(-5, 6) for i in range(width)]
            c = source.choice([0, source.randrange(-30, 30)])
            kind = source.randrange(3)
            i = source.randrange(width)
            machine = made(line(1, a, c, kind), some(0, 1, i))
            others = a[:i] + a[i + 1 :]
            rows = list(helper.rows_with_sum(others, c, 5, number))
            helper.check_set(self, machine, width - 1, line_without(a, c, kind, i), rows)

    def test_rests_of_every_width(self):
        source = random.Random(42)
        for number in range(150):
            width = source.randrange(1, 5)
            a = [source.randrange(-16, 17) for i in range(width)]
            m = source.randrange(1, 30)
            c = source.randrange(-50, 50)
            i = source.randrange(width)
            machine = made(rest(1, a, c, m), some(0, 1, i))
            helper.check_set(self, machine, width - 1, rest_without(a, c, m, i))

    def test_joined_sets_against_numbers_tried_out(self):
        source = random.Random(43)
        done = 0
        while done < 60:
            width = source.randrange(1, 4)
            a, b = [[source.randrange(-3, 4) for i in range(width)] for j in range(2)]
            c, m, d = source.randrange(-12, 12), source.randrange(1, 9), source.randrange(9)
            one = helper.line_sample(a, c, source.randrange(3))
            other = helper.rest_sample(b, d, m)
            table = source.choice([1, 2, 4, 6, 7, 8, 9, 14])
            i = source.randrange(width)
            calls = [one[0](1), other[0](2), join(1, 1, 2, table), some(0, 1, i)]
            if answered(*calls) == [0, 0, 0, 0]:

                def member(*row):
                    return table >> (2 * one[1](*row) + other[1](*row)) & 1

                # Beyond all that the line may need, a number matters only by what it leaves when parted by m.
                tried_out = tried(member, i, lambda total: 3 * total + 25)
                helper.check_set(self, made(*calls), width - 1, tried_out, large=False)
                done += 1

    def test_the_document_s_own(self):
        machine = made(line(1, [3, 1, -1], 0, 0), some(0, 1, 0))
        helper.check_set(self, machine, 2, lambda y, z: z >= y and (z - y) % 3 == 0)

    def test_number_put_in_may_be_longer_than_the_others(self):
        for width in range(5):
            every = (width, [1], [[0] * (1 << width)])
            for i in range(width + 1):
                if width < 4:
                    f = [1] * (width + 1)
                    f[i] = -1
                    self.assertEqual(helper.whole(made(line(1, f, 0, 0), some(0, 1, i))), every)
                    f = [16] * (width + 1)
                    f[i] = -1
                    if width < 3:
                        self.assertEqual(helper.whole(made(line(1, f, -9, 1), some(0, 1, i))), every)
        far = made(line(1, [1], LARGEST_C, 0), wide(1, 1, 0), line(2, [1, 0], 3, 0), join(1, 1, 2, 8), some(0, 1, 1))
        helper.check_set(self, far, 1, lambda x: x == 3)

    def test_a_power_of_two_above_or_near(self):
        above = made(twos(1), wide(1, 1, 0), line(2, [1, -1], -1, 1), join(3, 1, 2, 8), some(0, 3, 1))
        helper.check_set(self, above, 1, lambda x: True)
        powers = [2**power for power in range(199)]
        rows = [(power + more,) for power in powers for more in range(-1, 5) if power + more >= 0]
        near = made(
            twos(1), wide(1, 1, 0), line(2, [1, -1], 2, 1), line(3, [-1, 1], 0, 1),
            join(4, 1, 2, 8), join(4, 4, 3, 8), some(0, 4, 1),
        )
        helper.check_set(self, near, 1, lambda x: any(power <= x <= power + 2 for power in powers + [2**199]), rows)

    def test_sums_of_two_powers_of_two(self):
        machine = made(
            twos(1), wide(2, 1, 1), wide(2, 2, 2), wide(3, 1, 0), wide(3, 3, 2),
            join(4, 2, 3, 8), line(5, [1, 1, -1], 0, 0), join(4, 4, 5, 8), some(4, 4, 0), some(0, 4, 0),
        )
        rows = [(2**p + 2**q,) for p in range(0, 199, 7) for q in range(0, 199, 5)]

        def member(x):
            return bin(x).count("1") == 2 or helper.is_two(x) and x > 1

        helper.check_set(self, machine, 1, member, rows)

    def test_width_1_to_0(self):
        for make, end in (
            (twos(1), 1), (line(1, [1], 7, 0), 1), (line(1, [2], 7, 0), 0), (line(1, [1], -1, 1), 0),
            (line(1, [1], LARGEST_C, 0), 1), (line(1, [-1], -LARGEST_C, 1), 1), (rest(1, [2], 1, 4), 0),
            (rest(1, [1], 60, 61), 1), (line(1, [0], 0, 2), 0), (line(1, [1], 0, 2), 1),
        ):
            self.assertEqual(helper.whole(made(make, some(0, 1, 0))), (0, [end], [[0]]))

    def test_which_number_is_left_out(self):
        calls = [
            line(1, [1, 0, 0], 1, 0), line(2, [0, 1, 0], 2, 0), line(3, [0, 0, 1], 3, 0),
            join(1, 1, 2, 8), join(1, 1, 3, 8),
        ]
        for i, left in ((0, (2, 3)), (1, (1, 3)), (2, (1, 2))):
            helper.check_set(self, made(*calls, some(0, 1, i)), 2, lambda *row: row == left)

    def test_the_same_place(self):
        self.assertEqual(
            helper.whole(made(line(1, [3, -2], 4, 0), some(1, 1, 0), at=1)),
            helper.whole(made(line(1, [3, -2], 4, 0), some(0, 1, 0))),
        )

    def test_x_stays_as_it_was(self):
        desk = helper.desk_after(line(1, [3, -2], 4, 0))
        before = helper.held_by(desk)
        helper.answers_on(desk, some(0, 1, 0))
        self.assertEqual(helper.held_by(desk)[1], before[1])

    def test_made_in_other_ways_it_is_the_same_machine(self):
        by_some = helper.whole(made(line(1, [1, -7], 3, 0), some(0, 1, 1)))
        by_join = helper.whole(made(rest(1, [1], 3, 7), line(2, [-1], -3, 1), join(0, 1, 2, 8)))
        self.assertEqual(by_some, by_join)
        turned = helper.whole(made(line(1, [1, -7], 3, 0), turn(1, 1, [1, 0]), some(0, 1, 0)))
        self.assertEqual(turned, by_some)


class ManyStates(unittest.TestCase):
    def test_64_states_and_65(self):
        machine = made(rest(1, [1], 0, 244), wide(1, 1, 1), some(0, 1, 1))
        self.assertEqual(len(machine.ends), 64)
        helper.check_set(self, machine, 1, lambda x: x % 244 == 0, [(244 * x,) for x in range(99)])
        calls = [
            line(1, [-3, 3], 4, 1), line(2, [4, -4], 17, 1), join(1, 1, 2, 8), rest(2, [-2, 5], 1, 11), join(1, 1, 2, 8),
        ]
        self.assertLessEqual(len(helper.bundles_of(made(*calls, at=1), 1)), 1024)
        self.assertEqual(answered(*calls, some(0, 1, 1))[5], -7)

        def member(x):
            return any((5 * y - 2 * x) % 11 == 1 for y in range(max(0, x - 4), x + 2))

        words = list(helper.some_words(1, 9, 512, 1))
        self.assertEqual(helper.futures(member, words, [(y,) for y in range(40)]), 65)

    def test_1024_bundles_and_one_more(self):
        self.assertEqual(len(helper.bundles_of(made(*FEWER_BUNDLES, at=1), 1)), 1024)
        self.assertEqual(answered(*FEWER_BUNDLES, some(0, 1, 1))[-1], 0)
        self.assertEqual(len(helper.bundles_of(made(*MORE_BUNDLES, at=1), 1)), 1025)
        self.assertEqual(answered(*MORE_BUNDLES, some(0, 1, 1))[-1], -7)

    def test_what_is_made_from_1024_bundles(self):
        def member(x, y):
            return 6 * x - 6 * y <= 4 and (3 * y - 5 * x - 5) % 11 == 0 and (3 * y - 4) % 8 == 0

        helper.check_set(self, made(*FEWER_BUNDLES, some(0, 1, 1)), 1, tried(member, 1, lambda total: total + 100), large=False)

    def test_refused_just_if_so_many(self):
        source = random.Random(44)
        counts = {"few": 0, "bundles": 0, "states": 0}
        while min(counts.values()) < 4:
            a, b = [[source.randrange(-5, 6) for i in range(2)] for j in range(2)]
            c, m, d = source.randrange(-9, 9), source.randrange(8, 30), source.randrange(9)
            calls = [line(1, a, c, 1), rest(2, b, d, m), join(1, 1, 2, source.choice([2, 4, 6, 7, 9, 11, 13]))]
            if answered(*calls) != [0, 0, 0]:
                continue
            i = source.randrange(2)
            machine = made(*calls, at=1)
            bundles = helper.bundles_of(machine, i)
            if len(bundles) > 1024:
                found = "bundles"
            elif helper.told_apart(bundles, lambda bundle: helper.has_hope(machine, i, bundle)) > 64:
                found = "states"
            else:
                found = "few"
            counts[found] += 1
            self.assertEqual(answered(*calls, some(0, 1, i))[3], 0 if found == "few" else -7, (calls, i))


class Refusals(unittest.TestCase):
    def test_no_place(self):
        for wrong in (8, 9, LARGEST_WHOLE):
            self.assertEqual(answered(twos(1), some(wrong, 1, 0)), [0, -1])
            self.assertEqual(answered(twos(1), some(0, wrong, 0)), [0, -1])

    def test_nothing_there(self):
        self.assertEqual(answered(some(0, 0, 0)), [-1])
        self.assertEqual(answered(twos(1), some(1, 2, 0)), [0, -1])
        self.assertEqual(answered(twos(1), BEGIN, some(0, 1, 0)), [0, 0, -1])

    def test_wrong_number(self):
        for width in range(5):
            make = line(1, [1] * width, 3, 1)
            for i in (width, width + 1, 64, LARGEST_WHOLE):
                self.assertEqual(answered(make, some(0, 1, i)), [0, -2])
            for i in range(width):
                self.assertEqual(answered(make, some(0, 1, i)), [0, 0])

    def test_which_of_two_is_answered(self):
        self.assertEqual(answered(twos(1), some(8, 1, 9)), [0, -1])
        self.assertEqual(answered(twos(1), some(0, 2, 9)), [0, -1])
        self.assertEqual(answered(*MORE_BUNDLES, some(8, 1, 1))[-1], -1)
        self.assertEqual(answered(*MORE_BUNDLES, some(0, 7, 1))[-1], -1)
        self.assertEqual(answered(*MORE_BUNDLES, some(0, 1, 2))[-1], -2)

    def test_refused_calls_change_nothing(self):
        desk = helper.desk_after(*MORE_BUNDLES, twos(0))
        before = helper.held_by(desk)
        for call in (some(8, 0, 0), some(0, 7, 0), some(0, 0, 1), some(1, 1, 2), some(0, 1, 1), some(1, 1, 1)):
            self.assertLess(helper.answers_on(desk, call)[1], 0)
            self.assertEqual(helper.held_by(desk), before)


if __name__ == "__main__":
    unittest.main()
