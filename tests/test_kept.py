"""Nothing that is handed in is changed or kept, and what is told may be changed."""

import unittest

from doorbeat.parting import parting
from doorbeat.running import clashes, run

RULES = ("old", "new", "left", "right", "wait")


def programs():
    left = [("write", 0, 1), ("read", 1), ("write", 1, 0)]
    right = [("read", 0), ("write", 1, 2), ("rest",), ("read", 1)]
    return left, right


class TestKept(unittest.TestCase):
    def calls(self, left, right):
        told = [run(rule, (0, 1), left, right) for rule in RULES]
        return told + [clashes(left, right), parting(2, left, right)]

    def test_handed_in_stays(self):
        left, right = programs()
        memory = (0, 1)
        self.calls(left, right)
        for rule in RULES:
            run(rule, memory, left, right)
        self.assertEqual((left, right), programs())
        self.assertEqual(memory, (0, 1))

    def test_asked_again(self):
        left, right = programs()
        self.assertEqual(self.calls(left, right), self.calls(left, right))
        self.assertEqual(self.calls(left, right), self.calls(*programs()))

    def test_told_may_be_changed(self):
        left, right = programs()
        usual = self.calls(*programs())
        for told in self.calls(left, right):
            for part in (told, *told):
                if isinstance(part, list):
                    part.append("more")
                    part.reverse()
        self.assertEqual((left, right), programs())
        self.assertEqual(self.calls(left, right), usual)

    def test_empty_lists_are_not_shared(self):
        for rule in RULES:
            left, right = [], []
            seen, others, _, _ = run(rule, (0,), left, right)
            seen.append(1)
            self.assertEqual((others, left, right), ([], [], []))
            self.assertEqual(run(rule, (0,), [], []), ([], [], (0,), 0))
        clashes([], []).append(1)
        self.assertEqual(clashes([], []), [])

    def test_one_list_at_both_doors(self):
        program = [("write", 0, 1), ("read", 0)]
        self.assertEqual(run("old", (0,), program, program), ([1], [1], (1,), 2))
        self.assertEqual(clashes(program, program), [0])
        self.assertEqual(program, [("write", 0, 1), ("read", 0)])

    def test_handed_in_may_be_changed_later(self):
        left, right = programs()
        told = self.calls(left, right)
        usual = self.calls(*programs())
        left.clear()
        right.append(("rest",))
        self.assertEqual(told, usual)
        self.assertEqual(run("old", (0, 1), left, [])[3], 0)


if __name__ == "__main__":
    unittest.main()
