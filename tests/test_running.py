import unittest
from itertools import product

from doorbeat.running import clashes, run

RULES = ("old", "new", "left", "right", "wait")
REST = ("rest",)


def one_by_one(memory, left, right):
    """All that comes if the deeds of both are done one by one, each program's in its order."""
    if not left and not right:
        return {((), (), memory)}
    told = set()
    for door, program in ((0, left), (1, right)):
        if not program:
            continue
        deed = program[0]
        worths = list(memory)
        reads = [(), ()]
        if deed[0] == "write":
            worths[deed[1]] = deed[2]
        if deed[0] == "read":
            reads[door] = (worths[deed[1]],)
        rest = (left[1:], right) if door == 0 else (left, right[1:])
        for seen, others, last in one_by_one(tuple(worths), *rest):
            told.add((reads[0] + seen, reads[1] + others, last))
    return told


def small_programs(most):
    deeds = [REST, ("read", 0), ("read", 1), ("write", 0, 1), ("write", 0, 2), ("write", 1, 1)]
    for many in range(most + 1):
        for program in product(deeds, repeat=many):
            yield list(program)


class TestRun(unittest.TestCase):
    def by_rules(self, memory, left, right, told):
        for rule in RULES:
            with self.subTest(rule=rule):
                self.assertEqual(run(rule, memory, left, right), told[rule])

    def test_is_defined_in_its_file(self):
        self.assertEqual(run.__module__, "doorbeat.running")

    def test_kinds(self):
        for rule in RULES:
            told = run(rule, (0, 1), [("read", 1)], [("write", 0, 2)])
            self.assertIs(told.__class__, tuple)
            self.assertEqual([part.__class__ for part in told], [list, list, tuple, int])

    def test_no_deeds(self):
        for memory in [(0,), (2, 1), (0, 1, 2, 0)]:
            self.by_rules(memory, [], [], {rule: ([], [], memory, 0) for rule in RULES})

    def test_left_reads_right_writes(self):
        self.by_rules((1,), [("read", 0)], [("write", 0, 2)], {
            "old": ([1], [], (2,), 1),
            "new": ([2], [], (2,), 1),
            "left": ([1], [], (2,), 1),
            "right": ([2], [], (2,), 1),
            "wait": ([1], [], (2,), 2),
        })

    def test_left_writes_right_reads(self):
        self.by_rules((1,), [("write", 0, 2)], [("read", 0)], {
            "old": ([], [1], (2,), 1),
            "new": ([], [2], (2,), 1),
            "left": ([], [2], (2,), 1),
            "right": ([], [1], (2,), 1),
            "wait": ([], [2], (2,), 2),
        })

    def test_two_writes(self):
        self.by_rules((0,), [("write", 0, 1)], [("write", 0, 2)], {
            "old": ([], [], (1,), 1),
            "new": ([], [], (1,), 1),
            "left": ([], [], (2,), 1),
            "right": ([], [], (1,), 1),
            "wait": ([], [], (2,), 2),
        })

    def test_two_writes_of_one_worth(self):
        told = {rule: ([], [], (1,), 1) for rule in RULES}
        told["wait"] = ([], [], (1,), 2)
        self.by_rules((0,), [("write", 0, 1)], [("write", 0, 1)], told)

    def test_two_reads(self):
        self.by_rules((2,), [("read", 0)], [("read", 0)], {rule: ([2], [2], (2,), 1) for rule in RULES})

    def test_unlike_cells(self):
        self.by_rules((0, 1, 2), [("write", 0, 2), ("read", 1)], [("read", 2), ("write", 2, 0)],
                      {rule: ([1], [2], (2, 1, 0), 2) for rule in RULES})

    def test_rests(self):
        self.by_rules((0,), [REST, REST, REST], [("write", 0, 1), REST],
                      {rule: ([], [], (1,), 3) for rule in RULES})
        self.by_rules((0,), [], [REST] * 7, {rule: ([], [], (0,), 7) for rule in RULES})

    def test_unlike_lengths(self):
        longer = [("read", 0), ("write", 0, 2), ("read", 0), REST, ("read", 0)]
        self.by_rules((1,), longer, [], {rule: ([1, 2, 2], [], (2,), 5) for rule in RULES})
        self.by_rules((1,), [], longer, {rule: ([], [1, 2, 2], (2,), 5) for rule in RULES})

    def test_reads_in_turn(self):
        left = [("read", 2), ("read", 0), ("read", 1), ("read", 0)]
        right = [("read", 1), REST, ("read", 2)]
        self.by_rules((0, 1, 2), left, right, {rule: ([2, 0, 1, 0], [1, 2], (0, 1, 2), 4) for rule in RULES})

    def test_a_later_beat_sees_the_writes(self):
        for rule in RULES:
            self.assertEqual(run(rule, (0, 0), [("write", 0, 1), ("read", 1)], [("write", 1, 2), ("read", 0)]),
                             ([2], [1], (1, 2), 2))

    def test_several_beats(self):
        left = [("write", 0, 1), ("read", 0), ("write", 0, 0), ("read", 0)]
        right = [("read", 0), ("write", 0, 2), ("write", 0, 1), ("read", 0)]
        self.by_rules((0,), left, right, {
            "old": ([1, 0], [0, 0], (0,), 4),
            "new": ([2, 0], [1, 0], (0,), 4),
            "left": ([1, 1], [1, 1], (1,), 4),
            "right": ([2, 0], [0, 0], (0,), 4),
            # Left: w01, r0, w00, r0; right: wait, r0, wait, wait, w02, w01, r0.
            "wait": ([1, 0], [1, 1], (1,), 7),
        })

    def test_wait_several_clashes_behind_each_other(self):
        left = [("write", 0, 1), ("read", 0), ("write", 0, 0)]
        self.assertEqual(run("wait", (2,), left, [("write", 0, 2)]), ([1], [], (2,), 4))
        self.assertEqual(run("wait", (2,), left, [("write", 0, 2), ("read", 0)]), ([1], [2], (2,), 5))
        # The read clashes with the first deed, but not with the second one.
        self.assertEqual(run("wait", (2,), left, [("read", 0)]), ([1], [1], (0,), 3))

    def test_wait_clashes_by_the_deeds_that_are_due(self):
        # Beat 0 clashes; then the right deed of number 0 is due beside the left one of number 1, and clashes no more.
        left = [("write", 0, 1), ("write", 1, 1), ("write", 0, 2)]
        right = [("read", 0), ("read", 1), ("read", 0)]
        self.assertEqual(clashes(left, right), [0, 1, 2])
        self.assertEqual(run("wait", (0, 0), left, right), ([], [1, 1, 2], (2, 1), 4))
        # Unclashing as they stand but for the first beat; by the wait the second deeds come to clash.
        left = [("write", 0, 1), REST, ("write", 1, 2)]
        right = [("read", 0), ("read", 1)]
        self.assertEqual(clashes(left, right), [0])
        self.assertEqual(run("wait", (0, 0), left, right), ([], [1, 2], (1, 2), 4))

    def test_wait_left_longer(self):
        left = [("write", 0, 1), ("write", 0, 2), REST, REST, REST]
        self.assertEqual(run("wait", (0,), left, [("read", 0)]), ([], [2], (2,), 5))

    def test_wait_right_longer(self):
        right = [("read", 0), ("write", 0, 0), ("read", 0), ("read", 0)]
        self.assertEqual(run("wait", (0,), [("write", 0, 1)], right), ([], [1, 0, 0], (0,), 5))

    def test_wait_forty(self):
        left = [("write", 0, 1)] * 40
        right = [("write", 0, 2)] * 40
        self.assertEqual(run("wait", (0,), left, right), ([], [], (2,), 80))
        for rule in ("old", "new", "right"):
            self.assertEqual(run(rule, (0,), left, right), ([], [], (1,), 40))
        self.assertEqual(run("left", (0,), left, right), ([], [], (2,), 40))

    def test_without_clashes_all_rules_tell_the_same(self):
        for left in small_programs(2):
            for right in small_programs(2):
                if clashes(left, right):
                    continue
                told = [run(rule, (0, 2), left, right) for rule in RULES]
                self.assertEqual(told, [told[0]] * 5)
                self.assertEqual(told[0][3], max(len(left), len(right)))

    def test_beats(self):
        for left in small_programs(2):
            for right in small_programs(2):
                most = max(len(left), len(right))
                for rule in RULES[:4]:
                    self.assertEqual(run(rule, (0, 2), left, right)[3], most)

    def test_comes_one_by_one(self):
        for left in small_programs(2):
            for right in small_programs(2):
                some = one_by_one((0, 2), left, right)
                for rule in RULES:
                    seen, others, last, _ = run(rule, (0, 2), left, right)
                    self.assertIn((tuple(seen), tuple(others), last), some)


if __name__ == "__main__":
    unittest.main()
