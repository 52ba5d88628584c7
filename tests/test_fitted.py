import unittest
from itertools import combinations, product

from doorbeat.fitting import fitted, shows
from doorbeat.running import clashes, run

RULES = ("old", "new", "left", "right", "wait")
REST = ("rest",)
DEEDS = [REST, ("read", 0), ("read", 1), ("write", 0, 1), ("write", 1, 2)]


def small_programs(most):
    return [list(program) for many in range(most + 1) for program in product(DEEDS, repeat=many)]


def with_rests(right, rests):
    """All programs that come if so many rests are put into the right one, as its deeds come soonest, each in turn."""
    many = len(right) + rests
    # Combinations of beats rise: the sooner the first deed the sooner its program is told, and so on.
    for beats in combinations(range(many), len(right)):
        program = [REST] * many
        for beat, deed in zip(beats, right):
            program[beat] = deed
        yield program


def fewest(left, right):
    """What fitted is to tell as its program, by trying all ways of putting in rests, the fewest first."""
    for rests in range(len(left) + 1):
        for program in with_rests(right, rests):
            if not clashes(left, program):
                return program
    raise AssertionError("behind the left program nothing clashes")


class TestFitted(unittest.TestCase):
    def test_is_defined_in_its_file(self):
        self.assertEqual(fitted.__module__, "doorbeat.fitting")

    def test_kinds(self):
        told = fitted([("write", 0, 1)], [("read", 0)])
        self.assertIs(told.__class__, tuple)
        self.assertEqual([part.__class__ for part in told], [list, list])
        self.assertEqual([part.__class__ for part in told[1]], [tuple])

    def test_no_deeds(self):
        self.assertEqual(fitted([], []), ([], []))
        self.assertEqual(fitted([("write", 0, 1)], []), ([], []))
        self.assertEqual(fitted([], [("write", 0, 1)]), ([("write", 0, 1)], []))
        self.assertEqual(fitted([("write", 0, 1)] * 20, []), ([], []))
        self.assertEqual(fitted([], [("write", 0, 1)] * 20), ([("write", 0, 1)] * 20, []))

    def test_without_clashes_nothing_is_put_in(self):
        for left, right in [
            ([("read", 0)], [("read", 0)]),
            ([("write", 0, 1)], [("write", 1, 1)]),
            ([("write", 0, 1), REST], [REST, ("read", 0)]),
            ([("read", 3), ("write", 2, 2)], [("read", 3), ("read", 3), ("write", 2, 0)]),
            ([("write", 0, 1)] * 4, [REST] * 3),
        ]:
            with self.subTest(left=left, right=right):
                self.assertEqual(fitted(left, right), (right, []))

    def test_one_clash(self):
        self.assertEqual(fitted([("write", 0, 1)], [("read", 0)]), ([REST, ("read", 0)], [(0, 0)]))
        self.assertEqual(fitted([("read", 0)], [("write", 0, 1)]), ([REST, ("write", 0, 1)], [(0, 0)]))
        self.assertEqual(fitted([("write", 0, 1)], [("write", 0, 1)]), ([REST, ("write", 0, 1)], [(0, 0)]))

    def test_a_later_clash(self):
        # The rest comes just ahead of the deed that would clash: those ahead of it come as soon as they can.
        left = [REST, ("read", 1), ("write", 0, 1)]
        right = [("read", 1), ("read", 1), ("read", 0), ("read", 0)]
        self.assertEqual(fitted(left, right), ([("read", 1), ("read", 1), REST, ("read", 0), ("read", 0)], [(2, 2)]))

    def test_one_deed_held_up_again(self):
        left = [("write", 0, 1), ("read", 0), ("write", 0, 2)]
        self.assertEqual(fitted(left, [("write", 0, 0)]),
                         ([REST, REST, REST, ("write", 0, 0)], [(0, 0), (1, 0), (2, 0)]))
        self.assertEqual(fitted(left, [("read", 0)]), ([REST, ("read", 0)], [(0, 0)]))
        # The second deed may not come ahead of the first one, and would clash there, too.
        self.assertEqual(fitted(left, [("read", 0), ("read", 0)]),
                         ([REST, ("read", 0), REST, ("read", 0)], [(0, 0), (2, 1)]))

    def test_several_clashes_apart(self):
        left = [("write", 0, 1), REST, REST, ("write", 1, 1), REST]
        right = [("read", 0), REST, ("read", 1), ("read", 0)]
        self.assertEqual(fitted(left, right),
                         ([REST, ("read", 0), REST, REST, ("read", 1), ("read", 0)], [(0, 0), (3, 2)]))

    def test_a_clash_by_an_earlier_rest(self):
        left = [("write", 0, 1), REST, ("write", 1, 1)]
        right = [("read", 0), ("read", 1)]
        self.assertEqual(clashes(left, right), [0])
        self.assertEqual(fitted(left, right), ([REST, ("read", 0), REST, ("read", 1)], [(0, 0), (2, 1)]))

    def test_a_clash_gone_by_an_earlier_rest(self):
        left = [("write", 0, 1), ("write", 1, 1), ("read", 3)]
        right = [("read", 0), ("read", 1)]
        self.assertEqual(clashes(left, right), [0, 1])
        self.assertEqual(fitted(left, right), ([REST, ("read", 0), ("read", 1)], [(0, 0)]))

    def test_rests_that_stand_already(self):
        # They stay, each as a deed of its own: none is taken for one that is put in.
        left = [("write", 0, 1), ("write", 0, 1), ("write", 0, 1)]
        right = [REST, ("read", 0), REST]
        self.assertEqual(fitted(left, right), ([REST, REST, REST, ("read", 0), REST], [(1, 1), (2, 1)]))
        self.assertEqual(fitted(left, [("read", 0), REST, REST]),
                         ([REST, REST, REST, ("read", 0), REST, REST], [(0, 0), (1, 0), (2, 0)]))

    def test_left_longer(self):
        left = [("write", 0, 1), REST, ("write", 0, 1), ("write", 0, 1), ("write", 0, 1)]
        self.assertEqual(fitted(left, [("read", 0)]), ([REST, ("read", 0)], [(0, 0)]))
        self.assertEqual(fitted(left, [("read", 0), ("read", 0)]),
                         ([REST, ("read", 0), REST, REST, REST, ("read", 0)], [(0, 0), (2, 1), (3, 1), (4, 1)]))

    def test_right_longer(self):
        right = [("read", 0), ("read", 1), ("write", 0, 2), ("write", 1, 2)]
        self.assertEqual(fitted([("write", 1, 0), ("write", 0, 0)], right), (right, []))
        self.assertEqual(fitted([("write", 0, 0)], right), ([REST, *right], [(0, 0)]))

    def test_twenty_deeds(self):
        left = [("write", 0, 1)] * 20
        right = [("read", 0)] * 20
        self.assertEqual(fitted(left, right), ([REST] * 20 + right, [(beat, 0) for beat in range(20)]))
        right = [("read", 1)] * 19 + [("read", 0)]
        self.assertEqual(fitted(left, right), (right[:19] + [REST, ("read", 0)], [(19, 19)]))
        right = [("read", 3)] * 20
        self.assertEqual(fitted(left, right), (right, []))
        left = [("write", 0, 1), ("read", 0)] * 10
        right = [("read", 0)] * 20
        program = [REST, ("read", 0)] * 10 + [("read", 0)] * 10
        self.assertEqual(fitted(left, right), (program, [(2 * number, number) for number in range(10)]))

    def test_four_cells(self):
        for cell in range(4):
            self.assertEqual(fitted([("write", cell, 2)], [("read", cell)]), ([REST, ("read", cell)], [(0, 0)]))

    def test_all_small_pairs(self):
        programs = small_programs(3)
        for left in programs:
            for right in programs:
                program, reason = fitted(left, right)
                self.assertEqual(program, fewest(left, right))
                self.assertEqual(clashes(left, program), [])
                self.assertEqual(len(reason), len(program) - len(right))
                self.assertEqual(reason, sorted(reason))
                self.assertIs(shows(left, right, reason), True)
                for beat, number in reason:
                    held = [REST] * beat + [right[number]]
                    self.assertIn(beat, clashes(left, held))

    def test_fits_all_rules(self):
        programs = small_programs(2)
        for left in programs:
            for right in programs:
                program, _ = fitted(left, right)
                told = [run(rule, (1, 0), left, program) for rule in RULES]
                self.assertEqual(told, [told[0]] * 5)


if __name__ == "__main__":
    unittest.main()
