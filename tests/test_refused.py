"""Memories, programs, rules and counts of cells that are refused, and good ones that are let by."""

import unittest

from doorbeat.errors import BadMemory, BadOrder, BadProgram, BadRule, DoorError, TooMany
from doorbeat.fitting import fitted, shows
from doorbeat.notes import written
from doorbeat.orders import explained, ordered, outcomes
from doorbeat.parting import parting
from doorbeat.running import clashes, run

RULES = ("old", "new", "left", "right", "wait")
REST = ("rest",)

# Deeds that are none at a memory of two cells, by what is wrong with them.
NO_DEEDS = {
    "word": [("look", 0), ("", 0), ("Read", 0), ("reads", 0), ("wait",), (0,), (None,), ("look",), (("rest",),)],
    "count": [(), ("read",), ("read", 0, 0), ("write",), ("write", 0), ("write", 0, 0, 0), ("rest", 0),
              ("rest", 0, 0)],
    "cell": [("read", 2), ("read", 4), ("read", -1), ("write", 2, 0), ("write", -1, 0), ("write", 100, 0),
             ("read", True), ("write", False, 0), ("read", "0"), ("read", None)],
    "worth": [("write", 0, 3), ("write", 0, -1), ("write", 1, 100), ("write", 0, True), ("write", 0, False),
              ("write", 0, "1"), ("write", 0, None)],
}


class Refusals(unittest.TestCase):
    def refused(self, kind, call, *args):
        with self.assertRaises(kind) as caught:
            call(*args)
        self.assertIs(caught.exception.__class__, kind)
        self.assertIsInstance(caught.exception, DoorError)
        self.assertIsInstance(caught.exception, ValueError)
        return caught.exception

    def refused_program(self, door, place, call, *args):
        error = self.refused(BadProgram, call, *args)
        self.assertEqual((error.door, error.place), (door, place))


def ordered_at(memory, left, right):
    return ordered(memory, left, right, "l" * len(left) + "r" * len(right))


def explained_at(memory, left, right):
    return explained(memory, left, right, [], [], memory)


def shows_nothing(left, right):
    return shows(left, right, [])


# Those that take a memory and two programs, and those that take two programs of four cells.
AT_MEMORIES = (ordered_at, explained_at, outcomes)
OF_FOUR_CELLS = (clashes, fitted, shows_nothing, written)


class TestMemories(Refusals):
    def test_refused(self):
        memories = [(), (0,) * 5, (0,) * 9, (3,), (-1,), (0, 1, 2, 3), (0, 0, -1), (0, "1"), (None,), ((0,),),
                    (True,), (0, False)]
        for memory in memories:
            for rule in RULES:
                with self.subTest(memory=memory, rule=rule):
                    self.refused(BadMemory, run, rule, memory, [], [])
            for call in AT_MEMORIES:
                with self.subTest(memory=memory, call=call):
                    self.refused(BadMemory, call, memory, [], [])
            with self.subTest(memory=memory):
                self.refused(BadMemory, explained, memory, [], [], [], [], (0,))

    def test_let_by(self):
        for memory in [(0,), (1,), (2,), (0, 1), (2, 1, 0), (0, 1, 2, 2)]:
            for rule in RULES:
                with self.subTest(memory=memory, rule=rule):
                    self.assertEqual(run(rule, memory, [], []), ([], [], memory, 0))
            with self.subTest(memory=memory):
                self.assertEqual(ordered(memory, [], [], ""), ((), (), memory))
                self.assertEqual(explained(memory, [], [], [], [], memory), "")
                self.assertEqual(outcomes(memory, [], []), [((), (), memory)])


class TestCounts(Refusals):
    def test_refused(self):
        for cells in [0, 5, -1, 6, 100, True, False]:
            with self.subTest(cells=cells):
                self.refused(BadMemory, parting, cells, [], [])

    def test_let_by(self):
        for cells in [1, 2, 3, 4]:
            with self.subTest(cells=cells):
                self.assertIsNone(parting(cells, [], []))


class TestRules(Refusals):
    def test_refused(self):
        for rule in ["", "Old", "older", "ol", " old", "none", "read", "old new", 0, None]:
            with self.subTest(rule=rule):
                self.refused(BadRule, run, rule, (0,), [], [])


class TestPrograms(Refusals):
    def test_deeds_that_are_none(self):
        for what, deeds in NO_DEEDS.items():
            for deed in deeds:
                with self.subTest(what=what, deed=deed):
                    for rule in RULES:
                        self.refused_program(0, 0, run, rule, (0, 0), [deed], [])
                        self.refused_program(1, 0, run, rule, (0, 0), [], [deed])
                    self.refused_program(0, 0, parting, 2, [deed], [])
                    self.refused_program(1, 0, parting, 2, [], [deed])
                    for call in AT_MEMORIES:
                        self.refused_program(0, 0, call, (0, 0), [deed], [])
                        self.refused_program(1, 0, call, (0, 0), [], [deed])

    def test_deeds_that_are_none_of_four_cells(self):
        for what, deeds in NO_DEEDS.items():
            for deed in deeds:
                if deed[1:2] == (2,):
                    # Four cells here: cell 2 is one of them.
                    continue
                for call in OF_FOUR_CELLS:
                    with self.subTest(what=what, deed=deed, call=call):
                        self.refused_program(0, 0, call, [deed], [])
                        self.refused_program(1, 0, call, [], [deed])

    def test_no_tuple_is_no_deed(self):
        for deed in ["rest", ["rest"], ["read", 0], None, 0]:
            with self.subTest(deed=deed):
                self.refused_program(0, 1, run, "old", (0,), [REST, deed], [])
                for call in AT_MEMORIES:
                    self.refused_program(0, 1, call, (0,), [REST, deed], [])
                    self.refused_program(1, 1, call, (0,), [], [REST, deed])
                for call in OF_FOUR_CELLS:
                    self.refused_program(0, 1, call, [REST, deed], [])
                    self.refused_program(1, 1, call, [], [REST, deed])

    def test_cells_that_the_memory_has(self):
        for cells in (1, 2, 3, 4):
            for cell in range(6):
                for deed in [("read", cell), ("write", cell, 2)]:
                    with self.subTest(cells=cells, deed=deed):
                        program = [REST, REST, deed]
                        if cell < cells:
                            self.assertEqual(run("old", (0,) * cells, program, program)[3], 3)
                            self.assertIsNone(parting(cells, program, []))
                            for call in AT_MEMORIES:
                                call((0,) * cells, program, program)
                        else:
                            for call in AT_MEMORIES:
                                self.refused_program(0, 2, call, (0,) * cells, program, [])
                                self.refused_program(1, 2, call, (0,) * cells, [], program)
                            self.refused_program(0, 2, run, "old", (0,) * cells, program, [])
                            self.refused_program(1, 2, run, "old", (0,) * cells, [], program)
                            self.refused_program(0, 2, parting, cells, program, [])
                            self.refused_program(1, 2, parting, cells, [], program)

    def test_four_cells(self):
        for cell in range(4):
            self.assertEqual(clashes([("read", cell)], [("write", cell, 0)]), [0])
            self.assertEqual(len(fitted([("read", cell)], [("write", cell, 0)])[1]), 1)
            self.assertIs(shows([("read", cell)], [("write", cell, 0)], [(0, 0)]), True)
            self.assertEqual(written([("read", cell)], [("write", cell, 0)]), f"r{cell}\nw{cell}0")
        for deed in [("read", 4), ("write", 4, 0), ("read", -1)]:
            for call in OF_FOUR_CELLS:
                self.refused_program(0, 1, call, [REST, deed], [])
                self.refused_program(1, 1, call, [], [REST, deed])

    def test_all_good_deeds_are_let_by(self):
        program = [REST]
        for cell in range(4):
            program.append(("read", cell))
            for worth in range(3):
                program.append(("write", cell, worth))
        for rule in RULES:
            self.assertGreaterEqual(run(rule, (0, 0, 0, 0), program, program)[3], len(program))
        self.assertEqual(len(clashes(program, program)), 12)
        for call in OF_FOUR_CELLS:
            call(program, program)
        ordered_at((0, 0, 0, 0), program, program)
        for deed in program:
            explained_at((0, 0, 0, 0), [deed], [deed])
            outcomes((0, 0, 0, 0), [deed], [deed])

    def test_first_that_is_none(self):
        program = [REST, ("read", 0), ("write", 0, 3), REST, ("read", 5), ("look", 0)]
        self.refused_program(0, 2, run, "new", (0,), program, [])
        self.refused_program(1, 2, run, "new", (0,), [], program)
        self.refused_program(0, 2, parting, 1, program, [])
        self.refused_program(1, 2, parting, 1, [], program)
        for call in AT_MEMORIES:
            self.refused_program(0, 2, call, (0,), program, [])
            self.refused_program(1, 2, call, (0,), [], program)
        for call in OF_FOUR_CELLS:
            self.refused_program(0, 2, call, program, [])
            self.refused_program(1, 2, call, [], program)

    def test_forty_deeds_are_let_by(self):
        for program in [[REST] * 40, [("read", 0)] * 40, [("write", 0, 1)] * 40]:
            for rule in RULES:
                self.assertEqual(run(rule, (0,), program, [])[3], 40)
                self.assertEqual(run(rule, (0,), [], program)[3], 40)
            self.assertEqual(clashes(program, []), [])
            self.assertEqual(clashes([], program), [])
            self.assertIsNone(parting(1, program, []))
            self.assertIsNone(parting(1, [], program))
            self.assertEqual(len(ordered_at((0,), program, program)), 3)
            self.assertEqual(len(written(program, program).split("\n")), 2)

    def test_forty_first_deed_is_refused(self):
        for many in (41, 42, 60):
            for program in [[REST] * many, [("read", 0)] * many, [("write", 0, 1)] * many]:
                for rule in RULES:
                    self.refused_program(0, 40, run, rule, (0,), program, [])
                    self.refused_program(1, 40, run, rule, (0,), [], program)
                for call in (clashes, written):
                    self.refused_program(0, 40, call, program, [])
                    self.refused_program(1, 40, call, [], program)
                self.refused_program(0, 40, parting, 1, program, [])
                self.refused_program(1, 40, parting, 1, [], program)
                for call in AT_MEMORIES:
                    self.refused_program(0, 40, call, (0,), program, [])
                    self.refused_program(1, 40, call, (0,), [], program)

    def test_twenty_deeds_are_let_by_for_fitted_and_shows(self):
        for program in [[REST] * 20, [("read", 0)] * 20, [("write", 0, 1)] * 20]:
            for call in (fitted, shows_nothing):
                call(program, [])
                call([], program)
                call(program, program)

    def test_twenty_first_deed_is_refused_for_fitted_and_shows(self):
        for many in (21, 22, 40, 41, 60):
            for program in [[REST] * many, [("read", 0)] * many, [("write", 0, 1)] * many]:
                for call in (fitted, shows_nothing):
                    self.refused_program(0, 20, call, program, [])
                    self.refused_program(1, 20, call, [], program)
                    self.refused_program(0, 20, call, program, program)

    def test_twenty_first_deed_and_others(self):
        for call in (fitted, shows_nothing):
            self.refused_program(0, 19, call, [REST] * 19 + [("look",)] + [REST] * 5, [])
            self.refused_program(0, 20, call, [REST] * 21 + [("look",)], [])
            self.refused_program(1, 20, call, [], [REST] * 20 + [("look",)])

    def test_forty_first_deed_and_others(self):
        earlier = [REST] * 39 + [("look",)] + [REST] * 5
        later = [REST] * 41 + [("look",)]
        both = [REST] * 40 + [("look",)]
        self.refused_program(0, 39, clashes, earlier, [])
        self.refused_program(0, 40, clashes, later, [])
        self.refused_program(0, 40, clashes, both, [])

    def test_left_ahead_of_right(self):
        near = [("look",)]
        far = [REST] * 41
        calls = [(run, ("old", (0,))), (parting, (1,)), (clashes, ()), (written, ())]
        calls += [(call, ((0,),)) for call in AT_MEMORIES]
        for call, first in calls:
            self.refused_program(0, 40, call, *first, far, near)
            self.refused_program(0, 0, call, *first, near, far)
        for call in (fitted, shows_nothing):
            self.refused_program(0, 20, call, far, near)
            self.refused_program(0, 0, call, near, far)

    def test_no_list_is_no_program(self):
        for program in [(), ("rest",), None]:
            for call in OF_FOUR_CELLS:
                self.refused_program(0, 0, call, program, [])
                self.refused_program(1, 0, call, [], program)
            for call, more in [(ordered, ("",)), (explained, ([], [], (0,))), (outcomes, ())]:
                self.refused_program(0, 0, call, (0,), program, [], *more)
                self.refused_program(1, 0, call, (0,), [], program, *more)


class TestOrder(Refusals):
    """What is handed in first is refused first."""

    def test_run(self):
        bad = [("look",)]
        self.refused(BadRule, run, "none", (3,), bad, bad)
        self.refused(BadRule, run, "none", (0,), bad, bad)
        self.refused(BadRule, run, "none", (0,), [], bad)
        self.refused(BadMemory, run, "old", (3,), bad, bad)
        self.refused(BadMemory, run, "old", (), [], bad)
        self.refused(BadMemory, run, "old", (0,) * 5, [REST] * 41, [])
        self.refused_program(0, 0, run, "old", (0,), bad, bad)
        self.refused_program(1, 0, run, "old", (0,), [], bad)

    def test_parting(self):
        bad = [("look",)]
        self.refused(BadMemory, parting, 0, bad, bad)
        self.refused(BadMemory, parting, 5, [], bad)
        self.refused_program(0, 0, parting, 4, bad, bad)

    def test_fitted_shows_and_written(self):
        bad = [("look",)]
        for call in (fitted, shows_nothing, written):
            self.refused_program(0, 0, call, bad, bad)
            self.refused_program(1, 0, call, [], bad)
        # A reason that shows nothing is told to do so, and not refused; bad programs are, ahead of it.
        self.refused_program(1, 0, shows, [], bad, [(9, 9)])

    def test_ordered(self):
        bad = [("look",)]
        self.refused(BadMemory, ordered, (3,), bad, bad, "x")
        self.refused(BadMemory, ordered, (), [], [], "x")
        self.refused_program(0, 0, ordered, (0,), bad, bad, "x")
        self.refused_program(1, 0, ordered, (0,), [], bad, "x")
        self.refused_program(1, 40, ordered, (0,), [], [REST] * 41, "x")
        self.refused(BadOrder, ordered, (0,), [], [], "x")
        self.refused(BadOrder, ordered, (0,), [REST] * 7, [REST] * 7, "x")

    def test_explained(self):
        bad = [("look",)]
        seven = [REST] * 7
        self.refused(BadMemory, explained, (3,), bad, bad, [], [], ())
        self.refused_program(0, 0, explained, (0,), bad, bad, [], [], ())
        self.refused_program(1, 0, explained, (0,), [], bad, [], [], ())
        self.refused_program(1, 7, explained, (0,), seven, seven + bad, [], [], ())
        self.refused(BadMemory, explained, (0,), seven, seven, [], [], ())
        self.refused(BadMemory, explained, (0,), seven, [], [], [], (0, 0))
        self.refused(TooMany, explained, (0,), seven, [], [], [], (0,))

    def test_outcomes(self):
        bad = [("look",)]
        seven = [REST] * 7
        self.refused(BadMemory, outcomes, (3,), bad, bad)
        self.refused(BadMemory, outcomes, (3,), seven, seven)
        self.refused_program(0, 7, outcomes, (0,), seven + bad, bad)
        self.refused_program(1, 0, outcomes, (0,), seven, bad)
        self.refused(TooMany, outcomes, (0,), seven, [])
        self.refused(TooMany, outcomes, (0,), [], seven)


if __name__ == "__main__":
    unittest.main()
