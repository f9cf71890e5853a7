"""twos: 1, 2, 4, 8, ..."""

import unittest

import helper
from helper import BEGIN, LARGEST_WHOLE, answered, line, made, twos


class Members(unittest.TestCase):
    def test_machine_written_out(self):
        self.assertEqual(helper.whole(made(twos(0))), (1, [0, 1, 0], [[0, 1], [1, 2], [2, 2]]))

    def test_members(self):
        rows = [(2**power + more,) for power in range(200) for more in (-1, 0, 1)]
        helper.check_set(self, made(twos(0)), 1, lambda x: bin(x).count("1") == 1, rows)

    def test_at_every_place(self):
        for t in range(8):
            desk = helper.desk_after(twos(t))
            self.assertEqual(list(desk.held), [t])

    def test_stands_there_whatever_was_there(self):
        plain = helper.whole(made(twos(0)))
        self.assertEqual(helper.whole(made(line(0, [1, 1], 2, 0), twos(0))), plain)


class Refusals(unittest.TestCase):
    def test_no_place(self):
        for t in (8, 9, LARGEST_WHOLE):
            self.assertEqual(answered(twos(t)), [-1])

    def test_refused_calls_change_nothing(self):
        desk = helper.desk_after(BEGIN, line(0, [1], 4, 1))
        before = helper.held_by(desk)
        self.assertEqual(helper.answers_on(desk, twos(8)), [1, -1])
        self.assertEqual(helper.held_by(desk), before)


if __name__ == "__main__":
    unittest.main()
