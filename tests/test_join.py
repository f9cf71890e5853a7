"""join: two sets put together by a table."""

import itertools
import random
import unittest

import helper
from helper import BEGIN, LARGEST_WHOLE, SAMPLES, answered, join, line, made, rest, twos, wide


def by_table(table, one, other):
    return lambda *row: table >> (2 * bool(one(*row)) + bool(other(*row))) & 1


class Members(unittest.TestCase):
    def test_every_table_on_every_width(self):
        for width, samples in SAMPLES.items():
            for one, other in itertools.product(samples[:4], repeat=2):
                for table in range(16):
                    machine = made(one[0](1), other[0](2), join(0, 1, 2, table))
                    helper.check_set(self, machine, width, by_table(table, one[1], other[1]))

    def test_large_rows_that_are_in_both_or_in_one(self):
        same = list(helper.rows_with_sum([1, -1], 0, 40, 1))
        three = list(helper.rows_with_sum([1, -3], 0, 40, 2))
        for table in range(16):
            machine = made(line(1, [1, -1], 0, 0), rest(2, [1, 1], 0, 6), join(0, 1, 2, table))
            member = by_table(table, lambda x, y: x == y, lambda x, y: (x + y) % 6 == 0)
            helper.check_set(self, machine, 2, member, same)
            machine = made(line(1, [1, -3], 0, 0), rest(2, [1, 0], 0, 2), join(0, 1, 2, table))
            member = by_table(table, lambda x, y: x == 3 * y, lambda x, y: x % 2 == 0)
            helper.check_set(self, machine, 2, member, three)

    def test_joined_more_than_once(self):
        machine = made(
            twos(1), rest(2, [1], 1, 7), join(3, 1, 2, 8), line(4, [1], 100, 1), join(5, 3, 4, 4), join(0, 5, 2, 6)
        )
        powers = [(2**power,) for power in range(200)]

        def member(x):
            return (x > 100 and helper.is_two(x) and x % 7 == 1) != (x % 7 == 1)

        helper.check_set(self, machine, 1, member, powers)

    def test_first_is_the_twos_bit(self):
        only_x = made(twos(1), rest(2, [1], 0, 2), join(0, 1, 2, 4))
        self.assertEqual([x for x in range(9) if helper.tells(only_x, (x,))], [1])
        only_y = made(twos(1), rest(2, [1], 0, 2), join(0, 1, 2, 2))
        self.assertEqual([x for x in range(9) if helper.tells(only_y, (x,))], [0, 6])

    def test_the_same_place_for_several(self):
        for table in range(16):
            apart = helper.whole(made(twos(1), rest(2, [1], 1, 3), join(0, 1, 2, table)))
            self.assertEqual(helper.whole(made(twos(1), rest(2, [1], 1, 3), join(1, 1, 2, table), at=1)), apart)
            self.assertEqual(helper.whole(made(twos(1), rest(2, [1], 1, 3), join(2, 1, 2, table), at=2)), apart)
            helper.check_set(
                self, made(twos(1), join(1, 1, 1, table), at=1), 1, by_table(table, helper.is_two, helper.is_two)
            )

    def test_x_and_y_stay_as_they_were(self):
        desk = helper.desk_after(twos(1), rest(2, [1], 1, 3))
        before = helper.held_by(desk)
        helper.answers_on(desk, join(0, 1, 2, 6))
        after = helper.held_by(desk)
        self.assertEqual({1: after[1], 2: after[2]}, before)

    def test_made_in_other_ways_it_is_the_same_machine(self):
        seen = helper.desk_after(
            twos(0), rest(1, [1], 1, 3),
            join(2, 0, 1, 7), join(3, 0, 0, 1), join(4, 1, 1, 1), join(5, 3, 4, 14), join(6, 2, 2, 1), join(7, 0, 1, 8),
        )
        held = helper.held_by(seen)
        self.assertEqual(held[2], held[5])
        self.assertEqual(held[6], held[7])
        by_six = helper.whole(made(rest(1, [1], 0, 2), rest(2, [1], 0, 3), join(0, 1, 2, 8)))
        self.assertEqual(by_six, helper.whole(made(rest(0, [1], 0, 6))))
        equal = helper.whole(made(line(1, [1, -1], 0, 1), line(2, [-1, 1], 0, 1), join(0, 1, 2, 8)))
        self.assertEqual(equal, helper.whole(made(line(0, [1, -1], 0, 0))))


class ManyStates(unittest.TestCase):
    def test_64_states_and_65(self):
        machine = made(rest(1, [1], 0, 61), rest(2, [1], 0, 4), join(0, 1, 2, 8))
        self.assertEqual(len(machine.ends), 64)
        helper.check_set(self, machine, 1, lambda x: x % 244 == 0, [(244 * x,) for x in range(99)])
        for first, second in ((61, 8), (13, 5)):
            calls = [rest(1, [1], 0, first), rest(2, [1], 0, second)]
            self.assertEqual(answered(*calls, join(0, 1, 2, 8)), [0, 0, -7])
            self.assertEqual(answered(*calls, join(0, 1, 2, 7)), [0, 0, -7])
            self.assertEqual(answered(*calls, join(0, 1, 2, 12)), [0, 0, 0])
        words = list(helper.some_words(1, 9, 512, 1))
        self.assertEqual(helper.futures(lambda x: x % 488 == 0, words, [(y,) for y in range(489)]), 65)

    def test_2048_pairs_and_one_more(self):
        few = [rest(1, [1], 0, 33), rest(2, [1], 0, 244)]
        many = [rest(1, [1], 0, 66), rest(2, [1], 0, 244)]
        for calls, pairs in ((few, 2048), (many, 2049)):
            held = helper.desk_after(*calls).held
            self.assertEqual(len(helper.pairs_of(held[1], held[2])), pairs)
        for table, member in (
            (0, lambda x: False),
            (15, lambda x: True),
            (12, lambda x: x % 33 == 0),
            (5, lambda x: x % 244 != 0),
        ):
            helper.check_set(self, made(*few, join(0, 1, 2, table)), 1, member, [(33 * 244 * 61,)])
            helper.check_set(self, made(*few, join(0, 2, 1, by_swap(table))), 1, member)
        for table in range(16):
            self.assertEqual(answered(*many, join(0, 1, 2, table)), [0, 0, -7])
            self.assertEqual(answered(*many, join(0, 2, 1, table)), [0, 0, -7])
            self.assertEqual(answered(*many, join(0, 1, 1, table)), [0, 0, 0])

    def test_refused_just_if_so_many(self):
        source = random.Random(31)
        counts = {0: 0, -7: 0}
        for number in range(150):
            a, b = [[source.randrange(-6, 7), source.randrange(-6, 7)] for i in range(2)]
            m, c = source.randrange(2, 64), source.randrange(-30, 30)
            calls = [line(1, a, c, source.randrange(3)), rest(2, b, c, m)]
            if answered(*calls) != [0, 0]:
                continue
            held = helper.desk_after(*calls).held
            table = source.randrange(16)
            answer = answered(*calls, join(0, 1, 2, table))[2]
            counts[answer] += 1
            pairs = helper.pairs_of(held[1], held[2])

            def is_end(pair):
                return table >> (2 * held[1].ends[pair[0]] + held[2].ends[pair[1]]) & 1

            many = len(pairs) > 2048 or helper.told_apart(pairs, is_end) > 64
            self.assertEqual(answer, -7 if many else 0, (calls, table))
        self.assertGreater(min(counts.values()), 20)


def by_swap(table):
    return table & 9 | (table & 2) << 1 | (table & 4) >> 1


class Refusals(unittest.TestCase):
    def test_no_place(self):
        both = [twos(1), twos(2)]
        for wrong in (8, 9, LARGEST_WHOLE):
            self.assertEqual(answered(*both, join(wrong, 1, 2, 8))[2], -1)
            self.assertEqual(answered(*both, join(0, wrong, 2, 8))[2], -1)
            self.assertEqual(answered(*both, join(0, 1, wrong, 8))[2], -1)

    def test_nothing_there(self):
        self.assertEqual(answered(join(0, 0, 0, 8)), [-1])
        self.assertEqual(answered(twos(1), join(0, 1, 2, 8)), [0, -1])
        self.assertEqual(answered(twos(1), join(0, 2, 1, 8)), [0, -1])
        self.assertEqual(answered(twos(1), join(1, 1, 2, 8)), [0, -1])
        self.assertEqual(answered(twos(1), twos(2), BEGIN, join(0, 1, 2, 8)), [0, 0, 0, -1])

    def test_other_widths(self):
        for one, other in itertools.permutations(range(5), 2):
            calls = [line(1, [0] * one, 0, 0), line(2, [0] * other, 0, 0)]
            self.assertEqual(answered(*calls, join(0, 1, 2, 8))[2], -2)

    def test_wrong_table(self):
        for table in (16, 17, 31, LARGEST_WHOLE):
            self.assertEqual(answered(twos(1), join(0, 1, 1, table)), [0, -2])
        for table in range(16):
            self.assertEqual(answered(twos(1), join(0, 1, 1, table)), [0, 0])

    def test_which_of_two_is_answered(self):
        self.assertEqual(answered(twos(1), join(8, 1, 1, 16)), [0, -1])
        self.assertEqual(answered(twos(1), join(0, 1, 2, 16)), [0, -1])
        many = [rest(1, [1], 0, 63), rest(2, [1], 0, 61), wide(3, 2, 0)]
        self.assertEqual(answered(*many, join(0, 1, 2, 8))[3], -7)
        self.assertEqual(answered(*many, join(0, 1, 2, 16))[3], -2)
        self.assertEqual(answered(*many, join(0, 1, 3, 8))[3], -2)
        self.assertEqual(answered(*many, join(8, 1, 2, 8))[3], -1)

    def test_refused_calls_change_nothing(self):
        desk = helper.desk_after(rest(1, [1], 0, 63), rest(2, [1], 0, 61), twos(0), wide(3, 0, 0))
        before = helper.held_by(desk)
        for call in (
            join(8, 1, 2, 8), join(0, 1, 7, 8), join(1, 7, 2, 8), join(0, 1, 3, 8), join(1, 1, 2, 16),
            join(0, 1, 2, 8), join(1, 1, 2, 8), join(2, 1, 2, 8), join(7, 1, 2, 8),
        ):
            self.assertLess(helper.answers_on(desk, call)[1], 0)
            self.assertEqual(helper.held_by(desk), before)


if __name__ == "__main__":
    unittest.main()
