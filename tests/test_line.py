"""line: the rows whose sum is a number, at most it, or other than it."""

import operator
import random
import unittest

import helper
from helper import BEGIN, LARGEST_C, LARGEST_WHOLE, answered, line, made, twos

KINDS = {0: operator.eq, 1: operator.le, 2: operator.ne}


def check_line(test, a, c, kind):
    def member(*row):
        return KINDS[kind](helper.weighed(a, row), c)

    rows = list(helper.rows_with_sum(a, c, 8, len(a)))
    helper.check_set(test, made(line(0, a, c, kind)), len(a), member, rows)


class Members(unittest.TestCase):
    def test_the_document_s_own(self):
        for kind in KINDS:
            check_line(self, [3, 1, -1], 0, kind)

    def test_machine_written_out(self):
        self.assertEqual(
            helper.whole(made(line(0, [1], 2, 0))),
            (1, [0, 0, 0, 1], [[1, 2], [2, 3], [2, 2], [3, 2]]),
        )
        self.assertEqual(helper.whole(made(line(0, [1, -1], 0, 0))), (2, [1, 0], [[0, 1, 1, 0], [1, 1, 1, 1]]))
        self.assertEqual(helper.whole(made(line(0, [1, -1], 0, 2))), (2, [0, 1], [[0, 1, 1, 0], [1, 1, 1, 1]]))
        self.assertEqual(helper.whole(made(line(0, [1, -1], 0, 1))), (2, [1, 0], [[0, 1, 0, 0], [1, 1, 0, 1]]))

    def test_width_0_has_one_row(self):
        for c in (-LARGEST_C, -2, -1, 0, 1, 2, 6, LARGEST_C):
            for kind in KINDS:
                check_line(self, [], c, kind)
                self.assertEqual(
                    helper.whole(made(line(0, [], c, kind))), (0, [1 if KINDS[kind](0, c) else 0], [[0]])
                )

    def test_all_rows_or_none(self):
        for width in range(5):
            letters = [0] * (1 << width)
            for a, c, kind, end in (
                ([0] * width, 0, 0, 1),
                ([0] * width, 5, 0, 0),
                ([1] * width, -1, 0, 0),
                ([1] * width, -1, 1, 0),
                ([-1] * width, 0, 1, 1),
                ([16] * width, -LARGEST_C, 2, 1),
                ([2] * width, 12345, 2, 1),
            ):
                self.assertEqual(helper.whole(made(line(0, a, c, kind))), (width, [end], [letters]))

    def test_many_small_ones_of_width_1(self):
        for f in range(-16, 17):
            for c in (-40, -17, -16, -3, -1, 0, 1, 2, 5, 15, 16, 31, 48):
                for kind in KINDS:
                    check_line(self, [f], c, kind)

    def test_many_of_width_2_to_4(self):
        source = random.Random(11)
        done = 0
        while done < 150:
            width = source.randrange(2, 5)
            a = [source.randrange(-16, 17) for i in range(width)]
            c = source.choice([0, 1, source.randrange(-60, 60), source.randrange(-5000, 5000)])
            kind = source.randrange(3)
            if helper.states_of_line(a, c, kind) <= 64:
                check_line(self, a, c, kind)
                done += 1

    def test_factors_at_their_bounds(self):
        for a in ([16], [-16], [16, -16], [-16, 16], [16, 16, 16], [-16, -16, -16, -16], [16, -16, 16, -16]):
            for kind in KINDS:
                check_line(self, a, 0, kind)
                check_line(self, a, 32, kind)

    def test_total_at_its_bounds(self):
        for c in (-LARGEST_C, LARGEST_C):
            for a in ([1], [-1], [16], [-16], [1, -1], [-1, 1], [2], [-2]):
                for kind in KINDS:
                    if helper.states_of_line(a, c, kind) <= 64:
                        check_line(self, a, c, kind)
                        near = [abs(c) // abs(a[0]) + d for d in range(-2, 3)]
                        for x in near:
                            row = (x,) + (0,) * (len(a) - 1)
                            self.assertEqual(
                                helper.tells(made(line(0, a, c, kind)), row), KINDS[kind](a[0] * x, c), (a, c, x)
                            )

    def test_numbers_of_a_from_k_on_do_not_matter(self):
        plain = helper.whole(made(line(0, [3, -2], 4, 1)))
        for more in ([0], [17], [-17, 2147483647], [-2147483648] * 8):
            self.assertEqual(helper.whole(made(line(0, [3, -2] + more, 4, 1, k=2))), plain)
        self.assertEqual(helper.whole(made(line(0, [99] * 10, 0, 0, k=0))), (0, [1], [[0]]))

    def test_made_in_other_ways_it_is_the_same_machine(self):
        plain = helper.whole(made(line(0, [1, -2], 3, 0)))
        self.assertEqual(helper.whole(made(line(0, [-1, 2], -3, 0))), plain)
        self.assertEqual(helper.whole(made(line(0, [8, -16], 24, 0))), plain)
        at_most = helper.whole(made(line(0, [1, -2], 3, 1)))
        for c in range(15, 20):
            self.assertEqual(helper.whole(made(line(0, [5, -10], c, 1))), at_most)


class ManyStates(unittest.TestCase):
    def test_refused_just_if_there_are_more_than_64(self):
        source = random.Random(12)
        for number in range(1500):
            width = source.randrange(1, 5)
            a = [source.randrange(-16, 17) for i in range(width)]
            reach = source.choice([20, 200, 2000, LARGEST_C])
            c = source.randrange(-reach, reach + 1)
            kind = source.randrange(3)
            states = helper.states_of_line(a, c, kind)
            if states > 64:
                self.assertEqual(answered(line(0, a, c, kind)), [-7], (a, c, kind))
            else:
                self.assertEqual(len(made(line(0, a, c, kind)).ends), states, (a, c, kind))

    def test_64_states_and_65(self):
        for a, c, kind in (
            ([-5, 16], -458, 0), ([4, 9, 3], 710, 0), ([9, -6, 2, 6], 165, 0),
            ([3, 8], 1248, 1), ([13, 16, -2], 95, 1), ([-13, 2, 6, -2], -118, 1),
            ([12, 13, 2], 416, 2), ([-14, 2, -1], 273, 2),
        ):
            self.assertEqual(helper.states_of_line(a, c, kind), 64)
            check_line(self, a, c, kind)
            self.assertEqual(len(made(line(0, a, c, kind)).ends), 64)
        for a, c, kind in (
            ([-8, 1], -1735, 0), ([3, -4, -1], -1667, 0), ([14, -7, 12, -14], 89, 0),
            ([-9, -1], -1301, 1), ([-11, -8, 0], -1147, 1), ([0, -2, -16, -8], -1467, 1),
            ([12, -7, -7], -361, 2), ([2, 0, -6, 1], -1470, 2),
        ):
            self.assertEqual(helper.states_of_line(a, c, kind), 65)
            self.assertEqual(answered(line(0, a, c, kind)), [-7])

    def test_futures_alone_show_that_there_are_too_many(self):
        words = list(helper.some_words(2, 11, 120, 1))
        further = [(0, y) for y in range(1302)]
        self.assertEqual(helper.futures(lambda x, y: -9 * x - y <= -1301, words, further), 65)
        self.assertEqual(answered(line(0, [-9, -1], -1301, 1)), [-7])


class Refusals(unittest.TestCase):
    def test_wrong_width(self):
        for k in (5, 6, 10, LARGEST_WHOLE):
            self.assertEqual(answered(line(0, [1] * 10, 0, 0, k=k)), [-2])
        self.assertEqual(answered(line(0, [1] * 10, 0, 0, k=4)), [0])

    def test_wrong_kind(self):
        for kind in (3, 4, LARGEST_WHOLE):
            self.assertEqual(answered(line(0, [1], 0, kind)), [-2])

    def test_too_few_numbers(self):
        for k in range(1, 5):
            for length in range(k):
                self.assertEqual(answered(line(0, [1] * length, 0, 0, k=k)), [-2])
            self.assertEqual(answered(line(0, [1] * k, 0, 0, k=k)), [0])

    def test_factor_beyond_its_bounds(self):
        for k in range(1, 5):
            for i in range(k):
                for f in (-17, 17, 2147483647, -2147483648):
                    a = [0] * k
                    a[i] = f
                    self.assertEqual(answered(line(0, a, 0, 0)), [-2])
                for f in (-16, 16):
                    a = [0] * k
                    a[i] = f
                    self.assertEqual(answered(line(0, a, 0, 0)), [0])

    def test_total_beyond_its_bounds(self):
        for kind in KINDS:
            for c in (LARGEST_C + 1, -LARGEST_C - 1, LARGEST_WHOLE, -LARGEST_WHOLE - 1):
                self.assertEqual(answered(line(0, [1], c, kind)), [-2])
                self.assertEqual(answered(line(0, [], c, kind)), [-2])
            for c in (LARGEST_C, -LARGEST_C):
                self.assertEqual(answered(line(0, [1], c, kind)), [0])

    def test_no_place(self):
        for t in (8, 9, LARGEST_WHOLE):
            self.assertEqual(answered(line(t, [1], 0, 0)), [-1])
        for t in range(8):
            self.assertEqual(answered(line(t, [1], 0, 0)), [0])

    def test_which_of_two_is_answered(self):
        self.assertEqual(answered(line(8, [17], 0, 3)), [-1])
        self.assertEqual(answered(line(8, [3, -5], LARGEST_C, 0)), [-1])
        self.assertEqual(answered(line(0, [3, -5], LARGEST_C, 0)), [-7])
        self.assertEqual(answered(line(0, [3, -5], LARGEST_C, 3)), [-2])

    def test_refused_calls_change_nothing(self):
        desk = helper.desk_after(BEGIN, twos(0), line(3, [1], 4, 1))
        before = helper.held_by(desk)
        for call in (line(8, [1], 0, 0), line(0, [17], 0, 0), line(0, [3, -5], LARGEST_C, 0), line(1, [1], 0, 3)):
            self.assertLess(helper.answers_on(desk, call)[1], 0)
            self.assertEqual(helper.held_by(desk), before)


if __name__ == "__main__":
    unittest.main()
