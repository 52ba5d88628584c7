import unittest

from doorbeat.running import clashes

REST = ("rest",)


class TestClashes(unittest.TestCase):
    def both_ways(self, left, right, told):
        self.assertEqual(clashes(left, right), told)
        self.assertEqual(clashes(right, left), told)

    def test_is_defined_in_its_file(self):
        self.assertEqual(clashes.__module__, "doorbeat.running")

    def test_reads_alone(self):
        self.both_ways([("read", 0)], [("read", 0)], [])
        self.both_ways([("read", 0)], [("read", 1)], [])

    def test_a_read_and_a_write(self):
        for worth in range(3):
            self.both_ways([("read", 1)], [("write", 1, worth)], [0])
            self.both_ways([("read", 0)], [("write", 1, worth)], [])

    def test_two_writes(self):
        # The worths don't matter, not even if they are the same.
        for worth in range(3):
            for other in range(3):
                self.both_ways([("write", 2, worth)], [("write", 2, other)], [0])
                self.both_ways([("write", 2, worth)], [("write", 3, other)], [])

    def test_a_worth_is_no_cell(self):
        self.both_ways([("write", 0, 2)], [("write", 1, 2)], [])
        self.both_ways([("write", 0, 2)], [("read", 2)], [])

    def test_rests(self):
        for deed in [REST, ("read", 0), ("write", 0, 0)]:
            self.both_ways([REST], [deed], [])

    def test_no_deeds(self):
        self.both_ways([], [], [])
        self.both_ways([], [("write", 0, 0)], [])
        self.both_ways([], [("read", 0)], [])

    def test_unlike_lengths(self):
        long = [("write", 0, 1)] * 5
        self.both_ways(long, [("read", 0)], [0])
        self.both_ways(long, [REST, ("read", 0), ("read", 0)], [1, 2])
        self.both_ways(long, [REST] * 4 + [("read", 0)] * 4, [4])

    def test_rising(self):
        left = [("read", 0), ("write", 1, 0), ("read", 2), REST, ("write", 3, 2), ("write", 0, 0), ("read", 1)]
        right = [("write", 0, 2), ("read", 1), ("read", 2), ("write", 3, 2), ("write", 3, 1), ("read", 1), REST]
        self.both_ways(left, right, [0, 1, 4])

    def test_forty(self):
        self.both_ways([("write", 0, 1)] * 40, [("read", 0)] * 40, list(range(40)))

    def test_beats_do_not_wait(self):
        # A clash moves no deed: only by the rule "wait" a deed is done in a later beat than its number.
        self.both_ways([("write", 0, 1), ("write", 1, 1)], [("read", 0), ("read", 2)], [0])


if __name__ == "__main__":
    unittest.main()
