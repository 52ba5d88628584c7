import unittest
from itertools import combinations, product

from doorbeat.parting import parting
from doorbeat.running import clashes, run

RULES = ("old", "new", "left", "right", "wait")
REST = ("rest",)


def parted(cells, left, right):
    """What parting is to tell, by trying all memories and all pairs of rules in their order."""
    for memory in product(range(3), repeat=cells):
        told = {rule: run(rule, memory, left, right)[:3] for rule in RULES}
        for rule, other in combinations(RULES, 2):
            if told[rule] != told[other]:
                return memory, rule, other
    return None


class TestParting(unittest.TestCase):
    def test_is_defined_in_its_file(self):
        self.assertEqual(parting.__module__, "doorbeat.parting")

    def test_a_read_and_a_write(self):
        self.assertEqual(parting(1, [("read", 0)], [("write", 0, 2)]), ((0,), "old", "new"))
        self.assertEqual(parting(1, [("write", 0, 2)], [("read", 0)]), ((0,), "old", "new"))

    def test_first_memory(self):
        # By (0,) the read tells 0 whoever is first.
        self.assertEqual(parting(1, [("read", 0)], [("write", 0, 0)]), ((1,), "old", "new"))
        self.assertEqual(parting(1, [("write", 0, 0)], [("read", 0)]), ((1,), "old", "new"))
        self.assertEqual(parting(2, [("read", 1)], [("write", 1, 0)]), ((0, 1), "old", "new"))
        self.assertEqual(parting(2, [("read", 0)], [("write", 0, 0)]), ((1, 0), "old", "new"))

    def test_memory_at_last_parts(self):
        self.assertEqual(parting(1, [("write", 0, 1)], [("write", 0, 2)]), ((0,), "old", "left"))
        self.assertEqual(parting(1, [("write", 0, 0)], [("write", 0, 1)]), ((0,), "old", "left"))

    def test_which_rule_parts_first_from_old(self):
        # "right" is never the first: where a left read parts it from "old", it parts "new" from "old", too.
        self.assertEqual(parting(1, [("read", 0)], [("write", 0, 2)]), ((0,), "old", "new"))
        self.assertEqual(parting(1, [("write", 0, 1)], [("write", 0, 2)]), ((0,), "old", "left"))
        # One worth is written by both, so that the clash matters by "wait" alone:
        # the later right deeds come a beat later.
        left = [("write", 0, 1), REST, ("read", 1)]
        right = [("write", 0, 1), ("write", 1, 1)]
        self.assertEqual(clashes(left, right), [0])
        self.assertEqual(parting(2, left, right), ((0, 0), "old", "wait"))
        right = [("write", 0, 1), ("write", 1, 0)]
        self.assertEqual(parting(2, left, right), ((0, 1), "old", "wait"))

    def test_none_with_a_clash(self):
        left = [("write", 0, 1), ("read", 1)]
        right = [("write", 0, 1), REST, ("write", 1, 1)]
        self.assertEqual(clashes(left, right), [0])
        self.assertIsNone(parting(2, left, right))

    def test_beats_do_not_count(self):
        # By "wait" it takes a beat more, but nothing else is told.
        left, right = [("write", 0, 1)], [("write", 0, 1)]
        self.assertEqual(run("old", (0,), left, right)[3], 1)
        self.assertEqual(run("wait", (0,), left, right)[3], 2)
        self.assertIsNone(parting(1, left, right))

    def test_none_without_clashes(self):
        self.assertIsNone(parting(1, [], []))
        self.assertIsNone(parting(1, [("read", 0)], [("read", 0)]))
        self.assertIsNone(parting(2, [("write", 0, 1)], [("write", 1, 2)]))
        self.assertIsNone(parting(1, [("write", 0, 1), REST], [REST, ("read", 0)]))
        self.assertIsNone(parting(4, [("write", 0, 1)] * 3, [("read", 1)] * 5))

    def test_one_to_four_cells(self):
        for cells in (1, 2, 3, 4):
            for cell in range(cells):
                memory = tuple(1 if at == cell else 0 for at in range(cells))
                self.assertEqual(parting(cells, [("read", cell)], [("write", cell, 0)]), (memory, "old", "new"))

    def test_first_memory_of_four_cells(self):
        # A read parts rules only where its cell has another worth than is written: the last cell is the first to.
        left = [("read", 0), ("read", 1), ("read", 2), ("read", 3)]
        right = [("write", 0, 0), ("write", 1, 0), ("write", 2, 0), ("write", 3, 0)]
        self.assertEqual(parting(4, left, right), ((0, 0, 0, 1), "old", "new"))

    def test_kinds(self):
        told = parting(2, [("read", 1)], [("write", 1, 0)])
        self.assertEqual([told.__class__, told[0].__class__], [tuple, tuple])
        self.assertEqual(len(told), 3)

    def test_forty_deeds(self):
        left = [("write", 0, 1)] * 40
        self.assertIsNone(parting(4, left, left))
        right = [("write", 0, 1)] * 39 + [("write", 0, 2)]
        self.assertEqual(parting(4, left, right), ((0, 0, 0, 0), "old", "left"))

    def test_all_small_pairs(self):
        deeds = [REST, ("read", 0), ("read", 1), ("write", 0, 0), ("write", 0, 2), ("write", 1, 1)]
        programs = [list(program) for many in range(3) for program in product(deeds, repeat=many)]
        for left in programs:
            for right in programs:
                told = parting(2, left, right)
                self.assertEqual(told, parted(2, left, right))
                if not clashes(left, right):
                    self.assertIsNone(told)


if __name__ == "__main__":
    unittest.main()
