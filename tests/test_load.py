"""load: what save gave, and nothing else."""

import itertools
import random
import unittest

import helper
from helper import (
    BEGIN,
    LARGEST_C,
    LARGEST_WHOLE,
    SAMPLES,
    Machine,
    answered,
    has,
    in_order,
    is_of_a_set,
    join,
    line,
    load,
    read,
    rest,
    same,
    save,
    saved,
    size_of,
    some,
    turn,
    twos,
    wide,
    width_of,
    written,
)
from sumsets.desk import answers

TWOS = [1, 3, 0] + [0, 0, 0, 1, 0] + [1, 1, 0, 2, 0] + [0, 2, 0, 2, 0]
# The largest text that is one of a set: width 4, 64 states.
LARGEST = rest(0, [1, 3, 5, 7], 0, 220)


def some_bytes():
    """Bytes of sets of all widths, of one state and of many."""
    found = [saved(make(0)) for samples in SAMPLES.values() for make, member in samples]
    found += [[k, 1, 0, end] + [0, 0] * 2**k for k in range(5) for end in (0, 1)]
    return found + [saved(rest(0, [1], 0, 244)), saved(LARGEST)]


def loads(b):
    return answered(load(0, b))[0]


class Loaded(unittest.TestCase):
    def test_what_save_gave(self):
        for b in some_bytes():
            self.assertEqual(answers(load(5, b) + save(5)), [1, 0, 2 + len(b), 0, len(b)] + b)
            self.assertEqual(answered(load(5, b), width_of(5), size_of(5)), [0, b[0], b[1]])

    def test_the_set_is_the_same(self):
        for width, samples in SAMPLES.items():
            for make, member in samples:
                b = saved(make(0))
                self.assertEqual(answered(make(0), load(1, b), same(0, 1), same(1, 0)), [0, 0, 1, 1])
                helper.check_set(self, helper.made(load(0, b)), width, member)

    def test_sets_that_no_sum_made(self):
        for machine in helper.some_machines(150, 81):
            b = written(*machine)
            self.assertTrue(is_of_a_set(b))
            self.assertEqual(saved(load(0, b)), b)
            rows = list(helper.large_rows(machine.width, 5, len(b)))
            rows += list(itertools.islice(helper.small_rows(machine.width), 40))
            told = [1 if helper.tells(machine, row) else 0 for row in rows]
            self.assertEqual(answered(load(0, b), *[has(0, row) for row in rows]), [0] + told)

    def test_64_states(self):
        for b in (saved(rest(0, [1], 0, 244)), saved(LARGEST)):
            self.assertEqual(b[1:3], [64, 0])
            self.assertEqual(answered(load(0, b), size_of(0)), [0, 64])

    def test_goes_on_as_if_it_were_made(self):
        by_sum = [line(1, [3, -2], 4, 0), line(2, [1, -1], 0, 1)]
        by_load = [load(1, saved(by_sum[0], at=1)), load(2, saved(by_sum[1], at=2))]
        for call in (join(0, 1, 2, 8), some(0, 1, 0), wide(0, 2, 1), turn(0, 1, [1, 0]), join(0, 1, 2, 6)):
            self.assertEqual(saved(*by_load, call), saved(*by_sum, call))

    def test_stands_at_t_whatever_was_there(self):
        for t in range(8):
            self.assertEqual(saved(load(t, TWOS), at=t), TWOS)
            self.assertEqual(saved(line(t, [1, 1], 2, 1), load(t, TWOS), at=t), TWOS)
            others = [line(x, [1, 2], x, 0) for x in range(8)]
            desk = helper.desk_after(*others)
            before = helper.held_by(desk)
            self.assertEqual(helper.answers_on(desk, load(t, TWOS)), [1, 0])
            after = helper.held_by(desk)
            self.assertEqual(after.pop(t), helper.whole(read(TWOS)))
            before.pop(t)
            self.assertEqual(after, before)

    def test_the_bytes_that_are_handed_in_are_not_kept(self):
        calls = load(0, TWOS)
        desk = helper.Desk()
        helper.answers_on(desk, calls)
        calls[:] = [0] * len(calls)
        self.assertEqual(helper.answers_on(desk, save(0))[3:], TWOS)


class Form(unittest.TestCase):
    def test_too_few_bytes(self):
        for b in some_bytes():
            for length in [*range(min(len(b), 100)), *range(max(0, len(b) - 40), len(b))]:
                self.assertEqual(loads(b[:length]), -2)

    def test_too_many_bytes(self):
        for b in some_bytes():
            for more in ([0], [1], [255], [0, 0], [0] * (1 + 2 * 2 ** b[0]), b, b[3:]):
                self.assertEqual(loads(b + more), -2)
            self.assertEqual(loads(b + [0] * (3000 - len(b))), -2)

    def test_a_width_above_4(self):
        for width in (5, 6, 7, 8, 9, 10, 128, 255):
            for b in some_bytes():
                self.assertEqual(loads([width] + b[1:]), -2)
        # Long enough for their widths: one state, and two that differ.
        for width in (5, 6, 7, 8, 9, 10):
            letters = 1 << width
            for end in (0, 1):
                self.assertEqual(loads(written(width, [end], [[0] * letters])), -2)
            if width < 10:
                b = written(width, [1, 0], [[0] + [1] * (letters - 1), [1] * letters])
                self.assertLessEqual(len(b), 3000)
                self.assertEqual(loads(b), -2)

    def test_another_width(self):
        for b in some_bytes():
            for width in range(5):
                if width != b[0]:
                    self.assertEqual(loads([width] + b[1:]), -2)

    def test_no_state(self):
        for width in range(6):
            for more in ([], [0], [1], [1] + [0, 0] * 2**width, [0] * 100):
                self.assertEqual(loads([width, 0, 0] + more), -2)

    def test_another_number_of_states(self):
        for b in some_bytes():
            for count in range(0, 70):
                if count != b[1]:
                    self.assertEqual(loads([b[0], count, 0] + b[3:]), -2)
            for high in (1, 2, 128, 255):
                self.assertEqual(loads([b[0], b[1], high] + b[3:]), -2)
            self.assertEqual(loads([b[0], 0, b[1]] + b[3:]), -2)

    def test_more_than_64_states(self):
        # Each is the machine of its set, but for 64: the one number 2^(n - 3).
        for count in (63, 64, 65, 66, 100, 255, 256, 257, 320, 500):
            chain = [[s + 1, count - 1] for s in range(count - 3)]
            steps = chain + [[count - 1, count - 2], [count - 2, count - 1], [count - 1] * 2]
            machine = in_order(Machine(1, [0] * (count - 2) + [1, 0], steps))
            self.assertEqual(len(machine.ends), count)
            self.assertTrue(helper.is_least(machine))
            self.assertEqual(loads(written(*machine)), 0 if count <= 64 else -2)
            if count <= 64:
                self.assertEqual(
                    answered(load(0, written(*machine)), has(0, [2 ** (count - 3)]), has(0, [0])), [0, 1, 0]
                )
        for width in (2, 3, 4):
            states = 65
            steps = [[s] + [(s + letter) % states for letter in range(1, 1 << width)] for s in range(states)]
            machine = in_order(Machine(width, [1] + [0] * 64, steps))
            self.assertTrue(helper.is_least(machine))
            self.assertEqual(len(machine.ends), 65)
            self.assertEqual(loads(written(*machine)), -2)

    def test_a_next_state_that_is_none(self):
        for b in some_bytes():
            machine = read(b)
            states = len(machine.ends)
            places = [(s, a) for s in range(states) for a in range(1 << b[0])]
            for s, a in places[:20] + places[-20:]:
                right = machine.steps[s][a]
                for wrong in (states, states + 1, 64, 255, right + 256, right + 512, 256 * 64, 65535):
                    if wrong >= states:
                        steps = [list(row) for row in machine.steps]
                        steps[s][a] = wrong
                        self.assertEqual(loads(written(b[0], machine.ends, steps)), -2, (s, a, wrong))

    def test_an_end_byte_other_than_0_and_1(self):
        for b in some_bytes():
            machine = read(b)
            for s, end in enumerate(machine.ends):
                for wrong in (2, 3, 254, 255) if s > 2 else range(2, 256):
                    ends = list(machine.ends)
                    ends[s] = wrong
                    self.assertEqual(loads(written(b[0], ends, machine.steps)), -2)
            for wrong in (2, 255):
                ends = [wrong if end else 0 for end in machine.ends]
                if ends != machine.ends:
                    self.assertEqual(loads(written(b[0], ends, machine.steps)), -2)


class OtherMachines(unittest.TestCase):
    """Machines that are none of a set, or not the one."""

    def test_not_the_fewest_states(self):
        # Two states that say the same, where the machine has one: words lead to both, all else is in order.
        tried = 0
        for b in some_bytes():
            machine = read(b)
            for double in split(machine):
                self.assertFalse(helper.is_least(double))
                self.assertEqual(helper.coming(double), list(range(len(double.ends))))
                self.assertEqual(loads(written(*double)), -2)
                tried += 1
        self.assertGreater(tried, 300)
        self.assertEqual(loads(written(0, [1, 1], [[1], [1]])), -2)
        self.assertEqual(loads(written(0, [0, 0], [[1], [0]])), -2)
        self.assertEqual(loads(written(1, [1, 1], [[0, 1], [1, 0]])), -2)

    def test_far_from_the_fewest_states(self):
        for width in range(5):
            for count in (2, 3, 10, 63, 64):
                steps = [[(s + 1) % count] * (1 << width) for s in range(count)]
                for end in (0, 1):
                    self.assertEqual(loads(written(width, [end] * count, steps)), -2)

    def test_another_order(self):
        for b in some_bytes():
            machine = read(b)
            for order in orders(len(machine.ends)):
                steps = [[order.index(s) for s in machine.steps[state]] for state in order]
                ends = [machine.ends[state] for state in order]
                right = 0 if order == sorted(order) else -2
                self.assertEqual(loads(written(b[0], ends, steps)), right, order)

    def test_another_first_state(self):
        # The first state is another one: the machine of another set, or one to whose states no word leads.
        for b in some_bytes():
            machine = read(b)
            for start in range(min(len(machine.ends), 6)):
                moved = in_order(machine, start)
                self.assertEqual(loads(written(*moved)), 0)
                self.assertEqual(saved(load(0, written(*moved))), written(*moved))
                order = [start] + [s for s in range(len(machine.ends)) if s != start]
                steps = [[order.index(s) for s in machine.steps[state]] for state in order]
                plain = written(b[0], [machine.ends[state] for state in order], steps)
                self.assertEqual(loads(plain), 0 if plain == written(*moved) else -2)

    def test_a_state_to_which_no_word_leads(self):
        for b in some_bytes():
            machine = read(b)
            states = len(machine.ends)
            if states == 64:
                continue
            for end in (0, 1):
                own = [[states] * (1 << b[0])]
                self.assertEqual(loads(written(b[0], machine.ends + [end], machine.steps + own)), -2)
                alike = [s for s in range(states) if machine.ends[s] == end]
                if alike:
                    back = [[alike[0]] + [0] * ((1 << b[0]) - 1)]
                    self.assertEqual(loads(written(b[0], machine.ends + [end], machine.steps + back)), -2)
                # Also where it's not the last one.
                for at in range(1, states):
                    steps = [[s + (s >= at) for s in row] for row in machine.steps]
                    steps.insert(at, [at] * (1 << b[0]))
                    ends = machine.ends[:at] + [end] + machine.ends[at:]
                    self.assertEqual(loads(written(b[0], ends, steps)), -2)

    def test_a_lone_state_that_says_what_no_other_does(self):
        # The machine of the multiples of 3, and one state more from which all else would be as it should.
        machine = read(saved(rest(0, [1], 0, 3)))
        b = written(1, machine.ends + [1], machine.steps + [[3, 0]])
        self.assertTrue(helper.is_least(read(b)))
        self.assertEqual(loads(b), -2)

    def test_words_of_one_row_that_do_not_say_the_same(self):
        # Least and in order, but zeros behind a word change what's said.
        self.assertEqual(loads(written(0, [1, 0], [[1], [1]])), -2)
        self.assertEqual(loads(written(0, [0, 1], [[1], [0]])), -2)
        self.assertEqual(loads(written(0, [0, 0, 1], [[1], [2], [2]])), -2)
        self.assertEqual(loads(written(1, [1, 0], [[1, 1], [1, 1]])), -2)
        self.assertEqual(loads(written(1, [0, 1], [[0, 1], [0, 1]])), -2)
        self.assertEqual(loads(written(1, [1, 0], [[1, 0], [1, 1]])), -2)
        for k in range(1, 5):
            letters = 1 << k
            self.assertEqual(loads(written(k, [0, 1], [[0] * (letters - 1) + [1], [0] + [1] * (letters - 1)])), -2)
            self.assertEqual(loads(written(k, [0, 1], [[0] * (letters - 1) + [1], [1] + [0] * (letters - 1)])), 0)

    def test_words_that_do_not_say_the_same_far_behind(self):
        tried = 0
        for machine in helper.some_machines(200, 82):
            for state, row in list(enumerate(machine.steps))[-3:]:
                other = [s for s in range(len(machine.ends)) if machine.ends[s] != machine.ends[state]]
                if other:
                    steps = [list(behind) for behind in machine.steps]
                    steps[state][0] = other[-1]
                    wrong = in_order(Machine(machine.width, machine.ends, steps))
                    if len(wrong.ends) == len(machine.ends) and helper.is_least(wrong):
                        self.assertEqual(loads(written(*wrong)), -2)
                        tried += 1
        self.assertGreater(tried, 200)


def split(machine):
    """Machines of one state more: a state stands twice, and one step leads to the second of them."""
    count = len(machine.ends)
    if count == 64:
        return
    steps_to = [(s, a, t) for s, row in enumerate(machine.steps) for a, t in enumerate(row)]
    for s, a, t in steps_to[:12] + steps_to[-12:]:
        steps = [list(row) for row in machine.steps] + [list(machine.steps[t])]
        steps[s][a] = count
        double = in_order(Machine(machine.width, machine.ends + [machine.ends[t]], steps))
        if len(double.ends) == count + 1:
            yield double


def orders(count):
    """Orders of states, the first always first: all of them while there are few."""
    if count <= 5:
        for tail in itertools.permutations(range(1, count)):
            yield [0, *tail]
        return
    yield list(range(count))
    for at in range(1, count - 1):
        yield [*range(at), at + 1, at, *range(at + 2, count)]
    yield [0, *reversed(range(1, count))]


class EveryText(unittest.TestCase):
    """Against the document's words: all machines that are small enough, and texts that are near to right ones."""

    def test_all_small_machines(self):
        for width, count in ((0, 1), (0, 2), (0, 3), (0, 4), (1, 1), (1, 2), (1, 3), (2, 1), (2, 2), (3, 1)):
            letters = 1 << width
            told = {}
            for ends in itertools.product((0, 1), repeat=count):
                for flat in itertools.product(range(count), repeat=count * letters):
                    steps = [list(flat[s * letters : (s + 1) * letters]) for s in range(count)]
                    machine = Machine(width, list(ends), steps)
                    right = by_words(machine)
                    self.assertEqual(loads(written(*machine)), -2 if right is None else 0, machine)
                    if right is not None:
                        told.setdefault(right, []).append(machine)
            # No set has two of them.
            self.assertEqual([found for found in told.values() if len(found) > 1], [])

    def test_changed_bytes(self):
        source = random.Random(83)
        right = 0
        for b in some_bytes():
            places = list(range(len(b)))
            if len(places) > 60:
                places = places[:8] + sorted(source.sample(places, 25))
            for at in places:
                for byte in {0, 1, 2, b[1] - 1, b[1], 255, b[at] ^ 1, source.randrange(b[1]), source.randrange(256)}:
                    changed = b[:at] + [byte] + b[at + 1 :]
                    expected = 0 if is_of_a_set(changed) else -2
                    self.assertEqual(loads(changed), expected, (b, at, byte))
                    right += changed != b and expected == 0
        self.assertGreater(right, 50)

    def test_any_bytes(self):
        source = random.Random(84)
        for number in range(2000):
            length = source.choice([0, 1, 2, 3, 4, 5, 6, 8, 13, 18, 50, 3000])
            b = [source.choice([0, 0, 1, 1, 2, 3, 255, source.randrange(256)]) for at in range(length)]
            self.assertEqual(loads(b), 0 if is_of_a_set(b) else -2, b)
        self.assertEqual(loads([]), -2)
        self.assertEqual(loads([0] * 3000), -2)
        self.assertEqual(loads([255] * 3000), -2)


def by_words(machine):
    """What the machine says of words, if it's the one of a set, else None: found by all words up to a length
    that is enough to come to every state and to tell any two apart."""
    count = len(machine.ends)
    letters = range(1 << machine.width)
    met = []
    for length in range(count + 1):
        for word in itertools.product(letters, repeat=length):
            state = behind(machine, 0, word)
            if state not in met:
                met.append(state)
            if machine.ends[state] != machine.ends[machine.steps[state][0]]:
                return None
    futures = []
    for state in range(count):
        words = [word for length in range(count) for word in itertools.product(letters, repeat=length)]
        futures.append(tuple(machine.ends[behind(machine, state, word)] for word in words))
    if met != list(range(count)) or len(set(futures)) < count:
        return None
    longer = [word for length in range(2 * count) for word in itertools.product(letters, repeat=length)]
    return tuple(machine.ends[behind(machine, 0, word)] for word in longer[:2000])


def behind(machine, state, word):
    for letter in word:
        state = machine.steps[state][letter]
    return state


class Refusals(unittest.TestCase):
    def test_minus_1_before_minus_2(self):
        for t in (8, 9, 255, 256, LARGEST_WHOLE):
            self.assertEqual(answered(load(t, TWOS)), [-1])
            for wrong in ([], [5, 1, 0, 1], TWOS[:-1], TWOS + [0], [255] * 3000):
                self.assertEqual(answered(load(t, wrong)), [-1])

    def test_changes_nothing(self):
        wrong = [[], TWOS[:-1], TWOS + [0], [1, 3, 0] + [2] + TWOS[4:], TWOS[:-1] + [1]]
        wrong += [written(1, [1, 1], [[0, 1], [1, 0]]), [255] * 3000]
        desk = helper.desk_after(line(0, [1], LARGEST_C, 1), wide(1, 0, 1))
        before = helper.held_by(desk)
        for b in wrong:
            for t in (0, 1, 2, 7):
                self.assertEqual(helper.answers_on(desk, load(t, b)), [1, -2])
            self.assertEqual(helper.answers_on(desk, load(8, b)), [1, -1])
            self.assertEqual(helper.held_by(desk), before)
        self.assertEqual(answered(load(0, TWOS[:-1]), size_of(0), BEGIN, load(0, []), size_of(0)), [-2, -1, 0, -2, -1])
        self.assertEqual(answered(twos(0), load(0, []), size_of(0), has(0, [4])), [0, -2, 3, 1])

    def test_what_follows_is_read_from_behind_the_bytes(self):
        calls = [load(0, [255] * 3000), twos(0), load(1, []), load(1, TWOS), same(0, 1)]
        self.assertEqual(answered(*calls), [-2, 0, -2, 0, 1])


if __name__ == "__main__":
    unittest.main()
