"""begin, the places, and the form in which calls come and answers go."""

import contextlib
import io
import random
import sys
import unittest

import helper
from helper import BEGIN, LARGEST_C, LARGEST_WHOLE
from helper import answered, end_of, has, join, line, load, next_of, rest, same, save, size_of, some, turn, twos
from helper import wide, width_of
from sumsets.desk import answers

TWOS = [1, 3, 0] + [0, 0, 0, 1, 0] + [1, 1, 0, 2, 0] + [0, 2, 0, 2, 0]
# Every call that makes a set, each at another place but for load.
EVERY_CALL = [
    BEGIN,
    line(1, [3, 1, -1], 0, 0),
    rest(2, [1], 2, 5),
    twos(3),
    join(4, 2, 3, 8),
    some(5, 1, 2),
    wide(6, 4, 0),
    turn(7, 1, [2, 0, 1]),
    load(3, TWOS),
]
# Every call that asks, and what it answers behind those.
ASKED = [
    (save(3), [0, 18] + TWOS),
    (size_of(3), [3]),
    (width_of(1), [3]),
    (next_of(3, 1, 1), [2]),
    (end_of(3, 1), [1]),
    (has(1, [2, 5, 11]), [1]),
    (has(1, [2, 5, 12]), [0]),
    (same(3, 3), [1]),
    (same(1, 3), [0]),
]
REFUSED = [
    line(8, [1], 0, 0),
    line(0, [17], 0, 0),
    line(0, [3, -5], LARGEST_C, 0),
    rest(8, [1], 0, 2),
    rest(0, [1], 0, 0),
    rest(0, [1], 0, 511),
    twos(8),
    join(0, 1, 9, 8),
    join(0, 1, 2, 8),
    some(0, 9, 0),
    some(0, 1, 3),
    wide(0, 9, 0),
    wide(0, 1, 4),
    turn(0, 9, [0]),
    turn(0, 1, [0, 1]),
    load(8, TWOS),
    load(0, TWOS[:-1]),
    load(3, TWOS + [0]),
    save(8),
    save(0),
    size_of(0),
    width_of(0),
    next_of(0, 0, 0),
    next_of(3, 3, 0),
    next_of(3, 0, 2),
    end_of(0, 0),
    end_of(3, 3),
    has(0, [1]),
    has(3, [1, 2]),
    same(0, 3),
    same(3, 0),
]


def joined(calls):
    return [number for call in calls for number in call]


def asking(place):
    """Every call that asks something of the set at a place, as it can be asked of any of width 1."""
    making = [some(0, place, 0), join(0, place, place, 0), wide(0, place, 0), turn(0, place, [0])]
    telling = [save(place), size_of(place), width_of(place), next_of(place, 0, 0), end_of(place, 0)]
    return making + telling + [has(place, [1]), same(place, place)]


class Begin(unittest.TestCase):
    def test_answers_0_and_nothing_is_at_any_place(self):
        for before in ([], [twos(t) for t in range(8)], EVERY_CALL):
            desk = helper.desk_after(*before, BEGIN)
            self.assertEqual(helper.held_by(desk), {})
        for place in range(8):
            filled = [twos(t) for t in range(8)]
            for call in asking(place):
                self.assertGreaterEqual(helper.parted(answers(joined(filled + [call])))[-1][0], 0)
                self.assertEqual(answered(*filled, BEGIN, call)[-2:], [0, -1])

    def test_nothing_is_at_any_place_before_the_first_call(self):
        for place in range(8):
            for call in asking(place):
                self.assertEqual(answered(call), [-1])

    def test_goes_on_behind_begin(self):
        self.assertEqual(answered(twos(0), BEGIN, BEGIN, twos(1), wide(2, 1, 1)), [0, 0, 0, 0, 0])


class Form(unittest.TestCase):
    def test_each_call_by_its_numbers(self):
        self.assertEqual(
            answers(
                [0]
                + [1, 0, 2, 5, 1, 3, 1, -1, 99]
                + [2, 1, 1, 2, 5, 1, 1]
                + [3, 2]
                + [4, 3, 1, 2, 8]
                + [5, 4, 0, 1]
                + [6, 5, 4, 0]
                + [7, 6, 5, 4, 1, 0, 7, 7]
                + [7, 6, 5, 0]
                + [5, 6, 7, 0]
            ),
            [1, 0] * 8 + [1, -2, 1, -1],
        )
        self.assertEqual(
            answers(
                [8, 0, 13, 1, 2, 0, 1, 0, 0, 1, 0, 0, 1, 0, 1, 0]
                + [9, 0]
                + [10, 0]
                + [11, 0]
                + [12, 0, 0, 1]
                + [13, 0, 0]
                + [14, 0, 1, 2**200 - 1]
                + [15, 0, 0]
                + [14, 0, 0]
                + [8, 1, 0]
                + [9, 1]
                + [0]
                + [15, 0, 0]
            ),
            [1, 0]
            + [15, 0, 13, 1, 2, 0, 1, 0, 0, 1, 0, 0, 1, 0, 1, 0]
            + [1, 2]
            + [1, 1]
            + [1, 1]
            + [1, 1]
            + [1, 0]
            + [1, 1]
            + [1, -2]
            + [1, -2]
            + [1, -1]
            + [1, 0]
            + [1, -1],
        )

    def test_every_call_that_asks(self):
        calls = joined(EVERY_CALL + [call for call, answer in ASKED])
        told = [[0]] * len(EVERY_CALL) + [answer for call, answer in ASKED]
        self.assertEqual(helper.parted(answers(calls)), told)

    def test_a_refusal_is_all_that_is_answered(self):
        for call in REFUSED:
            given = answers(joined(EVERY_CALL) + call)[2 * len(EVERY_CALL) :]
            self.assertEqual((len(given), given[0]), (2, 1))
            self.assertIn(given[1], (-1, -2, -7))

    def test_answers_are_whole_numbers_in_a_list(self):
        calls = EVERY_CALL + REFUSED + [call for call, answer in ASKED]
        given = answers(joined(calls))
        self.assertIs(type(given), list)
        for number in given:
            self.assertIs(type(number), int)
        self.assertEqual(len(helper.parted(given)), len(calls))

    def test_what_is_handed_in_is_not_changed(self):
        calls = joined(EVERY_CALL + REFUSED + [call for call, answer in ASKED])
        kept = list(calls)
        answers(calls)
        self.assertEqual(calls, kept)

    def test_what_is_handed_in_is_not_changed_for_a_while_either(self):
        # A list that tells of any change to itself.
        class Watched(list):
            def changed(self, *given):
                raise AssertionError("a list that was handed in is changed")

            append = extend = insert = pop = remove = reverse = sort = clear = changed
            __setitem__ = __delitem__ = __iadd__ = __imul__ = changed

        calls = joined(EVERY_CALL + REFUSED + [call for call, answer in ASKED])
        self.assertEqual(answers(Watched(calls)), answers(calls))

    def test_what_is_given_back_is_no_part_of_a_set(self):
        desk = helper.desk_after(twos(0))
        given = helper.answers_on(desk, save(0))
        given[:] = [9] * len(given)
        self.assertEqual(helper.answers_on(desk, save(0)), [20, 0, 18] + TWOS)

    def test_a_handed_in_list_that_changes_later_changes_no_set(self):
        calls = line(0, [1, -1], 0, 0) + turn(1, 0, [1, 0])
        desk = helper.Desk()
        helper.answers_on(desk, calls)
        before = helper.held_by(desk)
        calls[:] = [0] * len(calls)
        self.assertEqual(helper.held_by(desk), before)

    def test_nothing_is_kept_from_one_time_to_the_next(self):
        first = answers(joined(EVERY_CALL))
        self.assertEqual(answers(joined(EVERY_CALL)), first)
        answers(joined([twos(t) for t in range(8)]))
        for call in asking(0):
            self.assertEqual(answers(call), [1, -1])

    def test_100_calls_and_the_longest_lists(self):
        calls = [line(number % 8, [1] * 10, 5, 1, k=4) for number in range(50)]
        calls += [turn(number % 8, number % 8, [3, 2, 1, 0, 9, 9, 9, 9, 9, 9]) for number in range(50)]
        self.assertEqual(answers(joined(calls)), [1, 0] * 100)
        longest = load(0, [0] * 3000) + load(1, TWOS) + joined([has(1, [2**200 - 1] * 10)] * 98)
        self.assertEqual(answers(longest), [1, -2, 1, 0] + [1, -2] * 98)
        every = [line(0, [0] * 4, 0, 0)] + [save(0)] * 99
        self.assertEqual(answers(joined(every)), [1, 0] + ([38, 0, 36, 4, 1, 0, 1] + [0] * 32) * 99)

    def test_largest_numbers(self):
        most = LARGEST_WHOLE
        self.assertEqual(answered(line(most, [2147483647] * 10, most, most, k=most)), [-1])
        self.assertEqual(answered(line(0, [-2147483648] * 10, -most - 1, most, k=most)), [-2])
        self.assertEqual(answered(rest(most, [-2147483648] * 10, -most - 1, most, k=most)), [-1])
        self.assertEqual(answered(rest(0, [-2147483648] * 10, -most - 1, most, k=most)), [-2])
        self.assertEqual(answered(twos(most), join(most, most, most, most), some(most, most, most)), [-1] * 3)
        self.assertEqual(answered(wide(most, most, most), turn(most, most, [2147483647] * 10)), [-1] * 2)
        self.assertEqual(answered(load(most, [255] * 3000), save(most), size_of(most), width_of(most)), [-1] * 4)
        self.assertEqual(answered(next_of(most, most, most), end_of(most, most), same(most, most)), [-1] * 3)
        self.assertEqual(answered(twos(0), next_of(0, most, most), end_of(0, most)), [0, -2, -2])
        self.assertEqual(answered(has(most, [2**200 - 1] * 10)), [-1])

    def test_prints_nothing(self):
        out, err = io.StringIO(), io.StringIO()
        with contextlib.redirect_stdout(out), contextlib.redirect_stderr(err):
            answers(joined(EVERY_CALL + REFUSED + [call for call, answer in ASKED]))
        self.assertEqual(out.getvalue() + err.getvalue(), "")

    def test_loops_and_not_calls_within_one_another(self):
        limit = sys.getrecursionlimit()
        calls = joined([line(0, [16, 15, -16, -15], LARGEST_C, 1), rest(1, [1], 0, 511), rest(1, [1], 0, 61)])
        calls += joined([rest(2, [1], 0, 33), join(3, 1, 2, 12), some(4, 3, 0)] + [twos(0)] * 90)
        calls += joined([load(5, [255] * 3000), load(5, helper.saved(rest(0, [1], 0, 61)))])
        calls += joined([has(5, [61 << 190]), same(1, 5)])
        depth = 0
        frame = sys._getframe()
        while frame:
            depth += 1
            frame = frame.f_back
        try:
            sys.setrecursionlimit(depth + 40)
            given = answers(calls)
        finally:
            sys.setrecursionlimit(limit)
        self.assertEqual(given, [1, -7, 1, -7] + [1, 0] * 94 + [1, -2, 1, 0, 1, 1, 1, 1])


class Places(unittest.TestCase):
    def test_each_place_holds_its_own(self):
        calls = [line(t, [1], t, 0) for t in range(8)]
        held = helper.desk_after(*calls).held
        for t in range(8):
            helper.check_set(self, held[t], 1, lambda x: x == t)

    def test_a_new_set_stands_there_whatever_was_there(self):
        for call in EVERY_CALL[1:]:
            t = call[1]
            before = EVERY_CALL[: EVERY_CALL.index(call)]
            alone = helper.desk_after(*before, call).held[t]
            over = helper.desk_after(*before, call, line(0, [1, 1], 3, 1), turn(t, 0, [0, 1]))
            self.assertEqual(helper.whole(over.held[t]), helper.whole(over.held[0]))
            self.assertNotEqual(helper.whole(over.held[t]), helper.whole(alone))

    def test_only_t_changes(self):
        desk = helper.desk_after(*EVERY_CALL)
        for call in EVERY_CALL[1:]:
            before = helper.held_by(desk)
            self.assertEqual(helper.answers_on(desk, call), [1, 0])
            after = helper.held_by(desk)
            before.pop(call[1], None)
            after.pop(call[1])
            self.assertEqual(after, before)

    def test_refused_calls_change_nothing(self):
        desk = helper.desk_after(*EVERY_CALL)
        before = helper.held_by(desk)
        for call in REFUSED:
            self.assertIn(helper.answers_on(desk, call)[1], (-1, -2, -7), call)
            self.assertEqual(helper.held_by(desk), before)

    def test_refused_calls_change_no_later_answer(self):
        source = random.Random(61)
        calls = EVERY_CALL[1:] * 3
        mixed = []
        for call in calls:
            mixed += [call] + [source.choice(REFUSED)]
        self.assertEqual(answered(*calls), [0] * len(calls))
        late = [answer for call, answer in zip(mixed[20:], answered(*mixed)[20:]) if call not in REFUSED]
        self.assertEqual(late, [0] * (len(calls) - 10))

    def test_calls_that_ask_change_nothing(self):
        desk = helper.desk_after(*EVERY_CALL)
        before = helper.held_by(desk)
        for call, answer in ASKED * 2:
            self.assertEqual(helper.answers_on(desk, call), [len(answer)] + answer)
            self.assertEqual(helper.held_by(desk), before)

    def test_refused_calls_change_no_byte(self):
        saves = [save(t) for t in range(8)]
        right = helper.parted(answers(joined(EVERY_CALL + saves)))[-8:]
        self.assertEqual(right[0], [-1])
        for call in REFUSED:
            self.assertEqual(helper.parted(answers(joined(EVERY_CALL + [call] + saves)))[-8:], right)


if __name__ == "__main__":
    unittest.main()
