"""Memories, programs, rules and counts of cells that are refused, and good ones that are let by."""

import unittest

from doorbeat.errors import BadMemory, BadProgram, BadRule, DoorError
from doorbeat.parting import parting
from doorbeat.running import clashes, run

RULES = ("old", "new", "left", "right", "wait")
REST = ("rest",)

# Deeds that are none at a memory of two cells, by what is wrong with them.
NO_DEEDS = {
    "word": [("look", 0), ("", 0), ("Read", 0), ("reads", 0), ("wait",), (0,), (None,), ("look",), (("rest",),)],
    "count": [(), ("read",), ("read", 0, 0), ("write",), ("write", 0), ("write", 0, 0, 0), ("rest", 0),
              ("rest", 0, 0)],
    "cell": [("read", 2), ("read", 4), ("read", -1), ("write", 2, 0), ("write", -1, 0), ("write", 100, 0),
             ("read", True), ("write", False, 0), ("read", "0"), ("read", None)],
    "worth": [("write", 0, 3), ("write", 0, -1), ("write", 1, 100), ("write", 0, True), ("write", 0, False),
              ("write", 0, "1"), ("write", 0, None)],
}


class Refusals(unittest.TestCase):
    def refused(self, kind, call, *args):
        with self.assertRaises(kind) as caught:
            call(*args)
        self.assertIs(caught.exception.__class__, kind)
        self.assertIsInstance(caught.exception, DoorError)
        self.assertIsInstance(caught.exception, ValueError)
        return caught.exception

    def refused_program(self, door, place, call, *args):
        error = self.refused(BadProgram, call, *args)
        self.assertEqual((error.door, error.place), (door, place))


class TestMemories(Refusals):
    def test_refused(self):
        memories = [(), (0,) * 5, (0,) * 9, (3,), (-1,), (0, 1, 2, 3), (0, 0, -1), (0, "1"), (None,), ((0,),),
                    (True,), (0, False)]
        for memory in memories:
            for rule in RULES:
                with self.subTest(memory=memory, rule=rule):
                    self.refused(BadMemory, run, rule, memory, [], [])

    def test_let_by(self):
        for memory in [(0,), (1,), (2,), (0, 1), (2, 1, 0), (0, 1, 2, 2)]:
            for rule in RULES:
                with self.subTest(memory=memory, rule=rule):
                    self.assertEqual(run(rule, memory, [], []), ([], [], memory, 0))


class TestCounts(Refusals):
    def test_refused(self):
        for cells in [0, 5, -1, 6, 100, True, False]:
            with self.subTest(cells=cells):
                self.refused(BadMemory, parting, cells, [], [])

    def test_let_by(self):
        for cells in [1, 2, 3, 4]:
            with self.subTest(cells=cells):
                self.assertIsNone(parting(cells, [], []))


class TestRules(Refusals):
    def test_refused(self):
        for rule in ["", "Old", "older", "ol", " old", "none", "read", "old new", 0, None]:
            with self.subTest(rule=rule):
                self.refused(BadRule, run, rule, (0,), [], [])


class TestPrograms(Refusals):
    def test_deeds_that_are_none(self):
        for what, deeds in NO_DEEDS.items():
            for deed in deeds:
                with self.subTest(what=what, deed=deed):
                    for rule in RULES:
                        self.refused_program(0, 0, run, rule, (0, 0), [deed], [])
                        self.refused_program(1, 0, run, rule, (0, 0), [], [deed])
                    self.refused_program(0, 0, parting, 2, [deed], [])
                    self.refused_program(1, 0, parting, 2, [], [deed])

    def test_deeds_that_are_none_for_clashes(self):
        for what, deeds in NO_DEEDS.items():
            for deed in deeds:
                if deed[1:2] == (2,):
                    # Four cells here: cell 2 is one of them.
                    continue
                with self.subTest(what=what, deed=deed):
                    self.refused_program(0, 0, clashes, [deed], [])
                    self.refused_program(1, 0, clashes, [], [deed])

    def test_no_tuple_is_no_deed(self):
        for deed in ["rest", ["rest"], ["read", 0], None, 0]:
            with self.subTest(deed=deed):
                self.refused_program(0, 1, run, "old", (0,), [REST, deed], [])
                self.refused_program(1, 1, clashes, [], [REST, deed])

    def test_cells_that_the_memory_has(self):
        for cells in (1, 2, 3, 4):
            for cell in range(6):
                for deed in [("read", cell), ("write", cell, 2)]:
                    with self.subTest(cells=cells, deed=deed):
                        program = [REST, REST, deed]
                        if cell < cells:
                            self.assertEqual(run("old", (0,) * cells, program, program)[3], 3)
                            self.assertIsNone(parting(cells, program, []))
                        else:
                            self.refused_program(0, 2, run, "old", (0,) * cells, program, [])
                            self.refused_program(1, 2, run, "old", (0,) * cells, [], program)
                            self.refused_program(0, 2, parting, cells, program, [])
                            self.refused_program(1, 2, parting, cells, [], program)

    def test_clashes_has_four_cells(self):
        for cell in range(4):
            self.assertEqual(clashes([("read", cell)], [("write", cell, 0)]), [0])
        for deed in [("read", 4), ("write", 4, 0), ("read", -1)]:
            self.refused_program(0, 1, clashes, [REST, deed], [])
            self.refused_program(1, 1, clashes, [], [REST, deed])

    def test_all_good_deeds_are_let_by(self):
        program = [REST]
        for cell in range(4):
            program.append(("read", cell))
            for worth in range(3):
                program.append(("write", cell, worth))
        for rule in RULES:
            self.assertGreaterEqual(run(rule, (0, 0, 0, 0), program, program)[3], len(program))
        self.assertEqual(len(clashes(program, program)), 12)

    def test_first_that_is_none(self):
        program = [REST, ("read", 0), ("write", 0, 3), REST, ("read", 5), ("look", 0)]
        self.refused_program(0, 2, run, "new", (0,), program, [])
        self.refused_program(1, 2, run, "new", (0,), [], program)
        self.refused_program(0, 2, parting, 1, program, [])
        self.refused_program(1, 2, parting, 1, [], program)
        self.refused_program(0, 2, clashes, program, [])
        self.refused_program(1, 2, clashes, [], program)

    def test_forty_deeds_are_let_by(self):
        for program in [[REST] * 40, [("read", 0)] * 40, [("write", 0, 1)] * 40]:
            for rule in RULES:
                self.assertEqual(run(rule, (0,), program, [])[3], 40)
                self.assertEqual(run(rule, (0,), [], program)[3], 40)
            self.assertEqual(clashes(program, []), [])
            self.assertEqual(clashes([], program), [])
            self.assertIsNone(parting(1, program, []))
            self.assertIsNone(parting(1, [], program))

    def test_forty_first_deed_is_refused(self):
        for many in (41, 42, 60):
            for program in [[REST] * many, [("read", 0)] * many, [("write", 0, 1)] * many]:
                for rule in RULES:
                    self.refused_program(0, 40, run, rule, (0,), program, [])
                    self.refused_program(1, 40, run, rule, (0,), [], program)
                self.refused_program(0, 40, clashes, program, [])
                self.refused_program(1, 40, clashes, [], program)
                self.refused_program(0, 40, parting, 1, program, [])
                self.refused_program(1, 40, parting, 1, [], program)

    def test_forty_first_deed_and_others(self):
        earlier = [REST] * 39 + [("look",)] + [REST] * 5
        later = [REST] * 41 + [("look",)]
        both = [REST] * 40 + [("look",)]
        self.refused_program(0, 39, clashes, earlier, [])
        self.refused_program(0, 40, clashes, later, [])
        self.refused_program(0, 40, clashes, both, [])

    def test_left_ahead_of_right(self):
        near = [("look",)]
        far = [REST] * 41
        for call, first in [(run, ("old", (0,))), (parting, (1,)), (clashes, ())]:
            self.refused_program(0, 40, call, *first, far, near)
            self.refused_program(0, 0, call, *first, near, far)

    def test_no_list_is_no_program(self):
        for program in [(), ("rest",), None]:
            self.refused_program(0, 0, clashes, program, [])
            self.refused_program(1, 0, clashes, [], program)


class TestOrder(Refusals):
    """What is handed in first is refused first."""

    def test_run(self):
        bad = [("look",)]
        self.refused(BadRule, run, "none", (3,), bad, bad)
        self.refused(BadRule, run, "none", (0,), bad, bad)
        self.refused(BadRule, run, "none", (0,), [], bad)
        self.refused(BadMemory, run, "old", (3,), bad, bad)
        self.refused(BadMemory, run, "old", (), [], bad)
        self.refused(BadMemory, run, "old", (0,) * 5, [REST] * 41, [])
        self.refused_program(0, 0, run, "old", (0,), bad, bad)
        self.refused_program(1, 0, run, "old", (0,), [], bad)

    def test_parting(self):
        bad = [("look",)]
        self.refused(BadMemory, parting, 0, bad, bad)
        self.refused(BadMemory, parting, 5, [], bad)
        self.refused_program(0, 0, parting, 4, bad, bad)


if __name__ == "__main__":
    unittest.main()
