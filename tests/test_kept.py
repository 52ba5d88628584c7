"""Nothing that is handed in is changed or kept, and what is told may be changed."""

import unittest

from doorbeat.fitting import fitted, shows
from doorbeat.notes import read, written
from doorbeat.orders import explained, ordered, outcomes
from doorbeat.parting import parting
from doorbeat.running import clashes, run

RULES = ("old", "new", "left", "right", "wait")


def programs():
    left = [("write", 0, 1), ("read", 1), ("write", 1, 0)]
    right = [("read", 0), ("write", 1, 2), ("rest",), ("read", 1)]
    return left, right


class TestKept(unittest.TestCase):
    def calls(self, left, right):
        told = [run(rule, (0, 1), left, right) for rule in RULES]
        told += [clashes(left, right), parting(2, left, right)]
        told += [fitted(left, right), shows(left, right, [(0, 0)])]
        told += [ordered((0, 1), left, right, "llrrrrl"), outcomes((0, 1), left, right)]
        told += [explained((0, 1), left, right, [1], [1, 2], (1, 2))]
        self.assertEqual(told[-1], "lllrrrr")
        told += [written(left, right), read(written(left, right))]
        return told

    def test_handed_in_stays(self):
        left, right = programs()
        memory = (0, 1)
        self.calls(left, right)
        for rule in RULES:
            run(rule, memory, left, right)
        self.assertEqual((left, right), programs())
        self.assertEqual(memory, (0, 1))

    def test_asked_again(self):
        left, right = programs()
        self.assertEqual(self.calls(left, right), self.calls(left, right))
        self.assertEqual(self.calls(left, right), self.calls(*programs()))

    def test_told_may_be_changed(self):
        left, right = programs()
        usual = self.calls(*programs())
        for told in self.calls(left, right):
            parts = told if isinstance(told, tuple) else ()
            for part in (told, *parts):
                if isinstance(part, list):
                    part.append("more")
                    part.reverse()
        self.assertEqual((left, right), programs())
        self.assertEqual(self.calls(left, right), usual)

    def test_reasons_and_worths_read_stay(self):
        left, right = programs()
        reason = fitted(left, right)[1]
        usual = list(reason)
        self.assertEqual(usual, [(0, 0), (2, 1)])
        self.assertIs(shows(left, right, reason), True)
        self.assertEqual(reason, usual)
        wrong = [(5, 5), (0, 0)]
        self.assertIs(shows(left, right, wrong), False)
        self.assertEqual(wrong, [(5, 5), (0, 0)])
        seen, others, last, _ = run("old", (0, 1), left, right)
        kept = (list(seen), list(others), last)
        for _ in range(2):
            order = explained((0, 1), left, right, seen, others, last)
            self.assertEqual(ordered((0, 1), left, right, order), (tuple(seen), tuple(others), last))
            self.assertEqual((seen, others, last), kept)
        self.assertEqual((left, right), programs())

    def test_fitted_may_be_changed(self):
        left, right = programs()
        usual = fitted(*programs())
        program, reason = fitted(left, right)
        program.clear()
        reason.clear()
        self.assertEqual((left, right), programs())
        self.assertEqual(fitted(left, right), usual)
        # Where nothing is put in, what is told is a list of its own, too.
        program, reason = fitted([], right)
        self.assertEqual(program, right)
        program.clear()
        reason.append((0, 0))
        self.assertEqual((left, right), programs())
        self.assertEqual(fitted([], right), (right, []))

    def test_outcomes_may_be_changed(self):
        left, right = programs()
        usual = outcomes((0, 1), *programs())
        outcomes((0, 1), left, right).clear()
        outcomes((0, 1), left, right).reverse()
        self.assertEqual(outcomes((0, 1), left, right), usual)

    def test_what_is_read_may_be_changed(self):
        for text in ["\n", "r0 -\n", "r0 -\nw01 w01", "r0\nr0"]:
            usual = read(text)
            left, right = read(text)
            left.append(("rest",))
            self.assertEqual(right, usual[1])
            right.clear()
            self.assertEqual(read(text), usual)

    def test_empty_lists_are_not_shared(self):
        for rule in RULES:
            left, right = [], []
            seen, others, _, _ = run(rule, (0,), left, right)
            seen.append(1)
            self.assertEqual((others, left, right), ([], [], []))
            self.assertEqual(run(rule, (0,), [], []), ([], [], (0,), 0))
        clashes([], []).append(1)
        self.assertEqual(clashes([], []), [])
        left, right = [], []
        program, reason = fitted(left, right)
        program.append(("rest",))
        self.assertEqual((reason, left, right), ([], [], []))
        reason.append((0, 0))
        self.assertEqual(fitted([], []), ([], []))

    def test_one_list_at_both_doors(self):
        program = [("write", 0, 1), ("read", 0)]
        self.assertEqual(run("old", (0,), program, program), ([1], [1], (1,), 2))
        self.assertEqual(clashes(program, program), [0])
        # Put in at the right door, a rest must not come in at the left one.
        self.assertEqual(fitted(program, program), ([("rest",)] * 2 + program, [(0, 0), (1, 0)]))
        self.assertEqual(ordered((0,), program, program, "rlrl"), ((1,), (1,), (1,)))
        self.assertEqual(outcomes((0,), program, program), [((1,), (1,), (1,))])
        self.assertEqual(explained((0,), program, program, [1], [1], (1,)), "llrr")
        worths = [1]
        self.assertEqual(explained((0,), program, program, worths, worths, (1,)), "llrr")
        self.assertEqual(written(program, program), "w01 r0\nw01 r0")
        self.assertEqual(program, [("write", 0, 1), ("read", 0)])

    def test_handed_in_may_be_changed_later(self):
        left, right = programs()
        told = self.calls(left, right)
        usual = self.calls(*programs())
        left.clear()
        right.append(("rest",))
        self.assertEqual(told, usual)
        self.assertEqual(run("old", (0, 1), left, [])[3], 0)


if __name__ == "__main__":
    unittest.main()
