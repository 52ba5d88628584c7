import unittest
from itertools import product

from doorbeat.errors import BadMemory, BadOrder, BadProgram, TooMany
from doorbeat.orders import explained, ordered, outcomes
from doorbeat.running import run

RULES = ("old", "new", "left", "right", "wait")
REST = ("rest",)
DEEDS = [REST, ("read", 0), ("read", 1), ("write", 0, 1), ("write", 0, 2), ("write", 1, 1)]


def small_programs(most):
    return [list(program) for many in range(most + 1) for program in product(DEEDS, repeat=many)]


def all_orders(left, right):
    """All orders, as texts ascend."""
    texts = ("".join(signs) for signs in product("lr", repeat=len(left) + len(right)))
    return [text for text in texts if text.count("l") == len(left)]


class TestOrdered(unittest.TestCase):
    def test_is_defined_in_its_file(self):
        self.assertEqual(ordered.__module__, "doorbeat.orders")

    def test_kinds(self):
        told = ordered((0, 1), [("read", 1)], [("write", 0, 2)], "lr")
        self.assertEqual([told.__class__, *[part.__class__ for part in told]], [tuple] * 4)

    def test_no_deeds(self):
        for memory in [(0,), (2, 1), (0, 1, 2, 0)]:
            self.assertEqual(ordered(memory, [], [], ""), ((), (), memory))

    def test_a_read_and_a_write(self):
        self.assertEqual(ordered((1,), [("read", 0)], [("write", 0, 2)], "lr"), ((1,), (), (2,)))
        self.assertEqual(ordered((1,), [("read", 0)], [("write", 0, 2)], "rl"), ((2,), (), (2,)))
        self.assertEqual(ordered((1,), [("write", 0, 2)], [("read", 0)], "lr"), ((), (2,), (2,)))
        self.assertEqual(ordered((1,), [("write", 0, 2)], [("read", 0)], "rl"), ((), (1,), (2,)))

    def test_two_writes(self):
        self.assertEqual(ordered((0,), [("write", 0, 1)], [("write", 0, 2)], "lr"), ((), (), (2,)))
        self.assertEqual(ordered((0,), [("write", 0, 1)], [("write", 0, 2)], "rl"), ((), (), (1,)))

    def test_several_orders(self):
        left = [("write", 0, 1), ("read", 1)]
        right = [("read", 0), ("write", 1, 2)]
        for order, told in {
            "llrr": ((0,), (1,), (1, 2)),
            "lrlr": ((0,), (1,), (1, 2)),
            "lrrl": ((2,), (1,), (1, 2)),
            "rllr": ((0,), (0,), (1, 2)),
            "rlrl": ((2,), (0,), (1, 2)),
            "rrll": ((2,), (0,), (1, 2)),
        }.items():
            with self.subTest(order=order):
                self.assertEqual(ordered((0, 0), left, right, order), told)

    def test_reads_in_turn(self):
        left = [("read", 0), ("read", 1), ("read", 0)]
        right = [("write", 0, 2), ("read", 1), ("read", 0)]
        self.assertEqual(ordered((0, 1), left, right, "llrlrr"), ((0, 1, 2), (1, 2), (2, 1)))

    def test_rests_have_signs(self):
        left = [REST, ("read", 0)]
        right = [("write", 0, 1), REST, REST]
        self.assertEqual(ordered((0,), left, right, "llrrr"), ((0,), (), (1,)))
        self.assertEqual(ordered((0,), left, right, "lrrrl"), ((1,), (), (1,)))
        self.assertEqual(ordered((0,), left, right, "lrlrr"), ((1,), (), (1,)))
        for order in ("lr", "rl", "llr", "lrr", "rrrl"):
            self.assertRaises(BadOrder, ordered, (0,), left, right, order)

    def test_one_door_alone(self):
        program = [("read", 0), ("write", 0, 2), ("read", 0)]
        self.assertEqual(ordered((1,), program, [], "lll"), ((1, 2), (), (2,)))
        self.assertEqual(ordered((1,), [], program, "rrr"), ((), (1, 2), (2,)))

    def test_seven_deeds_and_more(self):
        left = [("read", 0)] * 7
        right = [("write", 0, 1)] * 7
        self.assertEqual(ordered((0,), left, right, "llllrrrrrrrlll"), ((0, 0, 0, 0, 1, 1, 1), (), (1,)))

    def test_forty_deeds(self):
        left = [("write", 0, 1), ("read", 0)] * 20
        right = [("write", 0, 2), ("read", 0)] * 20
        self.assertEqual(ordered((0,), left, right, "l" * 40 + "r" * 40), ((1,) * 20, (2,) * 20, (2,)))
        self.assertEqual(ordered((0,), left, right, "r" * 40 + "l" * 40), ((1,) * 20, (2,) * 20, (1,)))
        self.assertEqual(ordered((0,), left, right, "lrlr" * 20), ((2,) * 20, (2,) * 20, (2,)))
        self.assertEqual(ordered((0,), left, right, "rlrl" * 20), ((1,) * 20, (1,) * 20, (1,)))
        self.assertRaises(BadOrder, ordered, (0,), left, right, "lr" * 39)

    def test_bad_orders(self):
        left = [("write", 0, 1), ("read", 1)]
        right = [("read", 0)]
        for order in ["llr", "lrl", "rll"]:
            ordered((0, 0), left, right, order)
        for order in ["", "l", "ll", "lr", "lll", "rrr", "lrr", "rlr", "llrr", "lllr", "llrl", "llr ", " llr", "llx",
                      "LLR", "l r", "lxr", "llrx", "ll-", "llR", "0r1", "llr\n", "l" * 100]:
            with self.subTest(order=order):
                with self.assertRaises(BadOrder) as caught:
                    ordered((0, 0), left, right, order)
                self.assertIs(caught.exception.__class__, BadOrder)
        for order in ["l", "r", " ", "lr", "x"]:
            self.assertRaises(BadOrder, ordered, (0,), [], [], order)
        self.assertRaises(BadOrder, ordered, (0,), [REST], [], "r")
        self.assertRaises(BadOrder, ordered, (0,), [], [REST], "l")

    def test_no_text_is_no_order(self):
        for order in [None, ["l", "l"], ("l", "l")]:
            self.assertRaises(BadOrder, ordered, (0,), [REST, REST], [], order)


class TestExplained(unittest.TestCase):
    def test_is_defined_in_its_file(self):
        self.assertEqual(explained.__module__, "doorbeat.orders")

    def test_no_deeds(self):
        self.assertEqual(explained((0, 2), [], [], [], [], (0, 2)), "")
        self.assertIsNone(explained((0, 2), [], [], [], [], (0, 1)))
        self.assertIsNone(explained((0, 2), [], [], [0], [], (0, 2)))
        self.assertIsNone(explained((0, 2), [], [], [], [0], (0, 2)))

    def test_first_as_texts_ascend(self):
        left = [("write", 0, 1), ("read", 1)]
        right = [("read", 0), ("write", 1, 2)]
        for seen, others, order in [([0], [1], "llrr"), ([2], [1], "lrrl"), ([0], [0], "rllr"), ([2], [0], "rlrl")]:
            with self.subTest(order=order):
                self.assertEqual(explained((0, 0), left, right, seen, others, (1, 2)), order)
        self.assertEqual(explained((0,), [REST] * 3, [REST] * 2, [], [], (0,)), "lllrr")

    def test_none(self):
        left = [("write", 0, 1), ("read", 1)]
        right = [("read", 0), ("write", 1, 2)]
        for seen, others, last in [
            ([1], [1], (1, 2)), ([0], [2], (1, 2)), ([0], [1], (1, 0)), ([0], [1], (0, 2)),
            ([], [1], (1, 2)), ([0], [], (1, 2)), ([0, 0], [1], (1, 2)), ([0], [1, 1], (1, 2)),
            ([0, 1], [], (1, 2)), ([], [0, 1], (1, 2)), ([1], [0], (1, 2)),
        ]:
            with self.subTest(seen=seen, others=others, last=last):
                self.assertIsNone(explained((0, 0), left, right, seen, others, last))

    def test_each_alone_comes_but_not_both(self):
        # Each read may come ahead of the other's write, but not both.
        left = [("write", 0, 1), ("read", 1)]
        right = [("write", 1, 1), ("read", 0)]
        self.assertEqual(explained((0, 0), left, right, [0], [1], (1, 1)), "llrr")
        self.assertEqual(explained((0, 0), left, right, [1], [0], (1, 1)), "rrll")
        self.assertEqual(explained((0, 0), left, right, [1], [1], (1, 1)), "lrlr")
        self.assertIsNone(explained((0, 0), left, right, [0], [0], (1, 1)))

    def test_no_worths_never_come(self):
        for worth in (3, -1, 100, True):
            self.assertIsNone(explained((1,), [("read", 0)], [], [worth], [], (1,)))
            self.assertIsNone(explained((1,), [], [("read", 0)], [], [worth], (1,)))

    def test_memory_at_last_is_refused(self):
        deeds = [("write", 0, 1)]
        for last in [(), (1,), (1, 0, 0), (1, 0, 0, 0), (1, 0, 0, 0, 0), (3, 0), (1, -1), (1, "0"), (True, 0),
                     (1, False), (1, None), [1, 0]]:
            with self.subTest(last=last):
                self.assertRaises(BadMemory, explained, (0, 0), deeds, [], [], [], last)
        self.assertEqual(explained((0, 0), deeds, [], [], [], (1, 0)), "l")

    def test_all_small_pairs(self):
        memory = (0, 2)
        for left in small_programs(2):
            for right in small_programs(2):
                firsts = {}
                for order in all_orders(left, right):
                    firsts.setdefault(ordered(memory, left, right, order), order)
                for (seen, others, last), order in firsts.items():
                    self.assertEqual(explained(memory, left, right, list(seen), list(others), last), order)
                self.assertEqual(outcomes(memory, left, right), sorted(firsts))

    def test_six_deeds(self):
        left = [("write", 0, 1)] * 6
        right = [("read", 0)] * 6
        self.assertEqual(explained((0,), left, right, [], [1] * 6, (1,)), "l" * 6 + "r" * 6)
        self.assertEqual(explained((0,), left, right, [], [0, 0, 0, 1, 1, 1], (1,)), "rrrllllllrrr")
        self.assertEqual(explained((0,), left, right, [], [0] * 6, (1,)), "r" * 6 + "l" * 6)
        self.assertIsNone(explained((0,), left, right, [], [1, 0, 1, 1, 1, 1], (1,)))

    def test_seven_deeds_are_too_many(self):
        for many in (7, 8, 40):
            program = [REST] * many
            self.assertRaises(TooMany, explained, (0,), program, [], [], [], (0,))
            self.assertRaises(TooMany, explained, (0,), [], program, [], [], (0,))
            self.assertRaises(TooMany, explained, (0,), program, program, [], [], (0,))
            self.assertRaises(TooMany, explained, (0,), program, [], [3], [], (0,))


class TestOutcomes(unittest.TestCase):
    def test_is_defined_in_its_file(self):
        self.assertEqual(outcomes.__module__, "doorbeat.orders")

    def test_kinds(self):
        told = outcomes((0, 1), [("read", 1)], [("write", 0, 2)])
        self.assertIs(told.__class__, list)
        self.assertEqual([told[0].__class__, *[part.__class__ for part in told[0]]], [tuple] * 4)

    def test_no_deeds(self):
        self.assertEqual(outcomes((0, 2, 1), [], []), [((), (), (0, 2, 1))])

    def test_one_door_alone(self):
        program = [("read", 0), ("write", 0, 2), ("read", 0)]
        self.assertEqual(outcomes((1,), program, []), [((1, 2), (), (2,))])
        self.assertEqual(outcomes((1,), [], program), [((), (1, 2), (2,))])

    def test_each_once(self):
        self.assertEqual(outcomes((0,), [REST] * 6, [REST] * 6), [((), (), (0,))])
        self.assertEqual(outcomes((0, 0), [("write", 0, 1)], [("write", 1, 1)]), [((), (), (1, 1))])
        self.assertEqual(outcomes((1,), [("read", 0)] * 3, [("read", 0)] * 2), [((1, 1, 1), (1, 1), (1,))])

    def test_rising(self):
        # By the orders as they ascend these would come the other way.
        self.assertEqual(outcomes((0,), [("write", 0, 1)], [("write", 0, 2)]), [((), (), (1,)), ((), (), (2,))])
        self.assertEqual(outcomes((0,), [("write", 0, 1)], [("read", 0)]), [((), (0,), (1,)), ((), (1,), (1,))])
        self.assertEqual(outcomes((2,), [("read", 0)], [("write", 0, 1)]), [((1,), (), (1,)), ((2,), (), (1,))])

    def test_several(self):
        left = [("write", 0, 1), ("read", 1)]
        right = [("read", 0), ("write", 1, 2)]
        self.assertEqual(outcomes((0, 0), left, right), [
            ((0,), (0,), (1, 2)), ((0,), (1,), (1, 2)), ((2,), (0,), (1, 2)), ((2,), (1,), (1, 2))])
        # What comes only if both reads are ahead of the other's write doesn't come.
        right = [("write", 1, 1), ("read", 0)]
        self.assertEqual(outcomes((0, 0), left, right), [
            ((0,), (1,), (1, 1)), ((1,), (0,), (1, 1)), ((1,), (1,), (1, 1))])

    def test_six_deeds(self):
        left = [("write", 0, 1)] * 6
        right = [("read", 0)] * 6
        some = [((), (0,) * many + (1,) * (6 - many), (1,)) for many in range(6, -1, -1)]
        self.assertEqual(outcomes((0,), left, right), some)

    def test_seven_deeds_are_too_many(self):
        for many in (7, 8, 40):
            program = [REST] * many
            self.assertRaises(TooMany, outcomes, (0,), program, [])
            self.assertRaises(TooMany, outcomes, (0,), [], program)
            self.assertRaises(TooMany, outcomes, (0,), program, program)

    def test_too_many_is_refused_last(self):
        seven = [REST] * 7
        bad = [REST] * 7 + [("look",)]
        long = [REST] * 41
        for memory, left, right, last, kind in [
            ((3,), seven, seven, (0,), BadMemory),
            ((0,), bad, seven, (0,), BadProgram),
            ((0,), seven, bad, (0,), BadProgram),
            ((0,), seven, long, (0,), BadProgram),
            ((0,), seven, [("look",)], (0,), BadProgram),
        ]:
            self.assertRaises(kind, outcomes, memory, left, right)
            self.assertRaises(kind, explained, memory, left, right, [], [], last)
        self.assertRaises(BadMemory, explained, (0,), seven, seven, [], [], (3,))
        self.assertRaises(BadMemory, explained, (0,), seven, seven, [], [], (0, 0))


class TestRunIsExplained(unittest.TestCase):
    def explains(self, memory, left, right):
        some = outcomes(memory, left, right)
        for rule in RULES:
            seen, others, last, _ = run(rule, memory, left, right)
            self.assertIn((tuple(seen), tuple(others), last), some)
            order = explained(memory, left, right, seen, others, last)
            self.assertIsNotNone(order)
            self.assertEqual(ordered(memory, left, right, order), (tuple(seen), tuple(others), last))

    def test_all_small_pairs(self):
        for left in small_programs(2):
            for right in small_programs(2):
                self.explains((0, 2), left, right)

    def test_longer_ones(self):
        left = [("write", 0, 1), ("read", 1), ("write", 1, 0), ("read", 0), REST, ("write", 2, 2)]
        right = [("read", 0), ("write", 1, 2), ("read", 1), ("write", 0, 0), ("read", 2), ("write", 2, 1)]
        for memory in [(0, 0, 0), (2, 1, 0), (1, 2, 1, 0)]:
            self.explains(memory, left, right)
            self.explains(memory, right, left)
            self.explains(memory, left, left)
            self.explains(memory, left, right[1:])
            self.explains(memory, left[2:], right)


if __name__ == "__main__":
    unittest.main()
