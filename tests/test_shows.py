import unittest
from itertools import product

from doorbeat.fitting import fitted, shows
from doorbeat.running import clashes

REST = ("rest",)

# Here fitted tells [(0, 0), (2, 1), (3, 1)].
LEFT = [("write", 0, 1), REST, ("write", 1, 1), ("write", 1, 2)]
RIGHT = [("read", 0), ("read", 1), ("read", 0)]


def really_shows(left, right, reason):
    """What shows is to tell, condition by condition."""
    numbers = [number for _, number in reason]
    return (
        all(0 <= number < len(right) for number in numbers)
        and numbers == sorted(numbers)
        and all(beat == number + ahead for ahead, (beat, number) in enumerate(reason))
        and all(beat in clashes(left, [REST] * beat + [right[number]]) for beat, number in reason)
    )


class TestShows(unittest.TestCase):
    def told(self, reason, worth, left=LEFT, right=RIGHT):
        with self.subTest(reason=reason):
            self.assertIs(shows(left, right, reason), worth)

    def test_is_defined_in_its_file(self):
        self.assertEqual(shows.__module__, "doorbeat.fitting")

    def test_what_fitted_tells(self):
        self.assertEqual(fitted(LEFT, RIGHT)[1], [(0, 0), (2, 1), (3, 1)])
        self.told([(0, 0), (2, 1), (3, 1)], True)
        left = [("write", 0, 1)] * 20
        for right in ([("read", 0)] * 20, [("read", 1)] * 19 + [("write", 0, 0)], [REST] * 20):
            self.told(fitted(left, right)[1], True, left, right)

    def test_empty(self):
        self.told([], True)
        self.told([], True, [], [])
        self.told([], True, [("write", 0, 1)], [])
        self.told([], True, [], [("write", 0, 1)])

    def test_fewer_than_the_fewest(self):
        self.told([(0, 0)], True)
        self.told([(0, 0), (2, 1)], True)

    def test_a_beat_one_more_or_less(self):
        for reason in [[(1, 0), (2, 1), (3, 1)], [(0, 0), (1, 1), (3, 1)], [(0, 0), (3, 1), (3, 1)],
                       [(0, 0), (2, 1), (2, 1)], [(0, 0), (2, 1), (4, 1)]]:
            self.told(reason, False)
        # The deed would clash in the beat that is told, too, but it is the wrong beat.
        left = [("write", 0, 1)] * 4
        self.told([(1, 0)], False, left, [("read", 0)] * 3)
        self.told([(0, 1)], False, left, [("read", 0)] * 3)
        self.told([(-1, 0)], False, left, [("read", 0)] * 3)
        self.told([(0, 0), (2, 0)], False, left, [("read", 0)] * 3)
        self.told([(0, 0), (0, 0)], False, left, [("read", 0)] * 3)

    def test_a_number_one_more_or_less(self):
        for reason in [[(0, 1), (2, 1), (3, 1)], [(0, 0), (2, 0), (3, 1)], [(0, 0), (2, 2), (3, 1)],
                       [(0, 0), (2, 1), (3, 0)], [(0, 0), (2, 1), (3, 2)]]:
            self.told(reason, False)

    def test_left_out_put_in_or_twice(self):
        for reason in [[(2, 1), (3, 1)], [(0, 0), (3, 1)], [(0, 0), (1, 0), (2, 1), (3, 1)],
                       [(0, 0), (2, 1), (3, 1), (4, 1)], [(0, 0), (0, 0), (2, 1), (3, 1)],
                       [(0, 0), (2, 1), (2, 1), (3, 1)], [(0, 0), (2, 1), (3, 1), (3, 1)],
                       [(2, 1), (0, 0), (3, 1)], [(3, 1), (2, 1), (0, 0)]]:
            self.told(reason, False)

    def test_numbers_that_fall(self):
        # All but the order is as it should be: each deed would clash in its beat.
        left = [("write", 0, 1)] * 5
        right = [("read", 0)] * 3
        self.told([(1, 1), (1, 0)], False, left, right)
        self.told([(2, 2), (2, 1)], False, left, right)
        self.told([(0, 0), (2, 1), (2, 0)], False, left, right)
        self.told([(0, 0), (3, 2), (3, 1)], False, left, right)

    def test_numbers_that_stay_or_rise(self):
        left = [("write", 0, 1)] * 5
        right = [("read", 0)] * 3
        self.told([(0, 0), (1, 0), (2, 0), (3, 0), (4, 0)], True, left, right)
        self.told([(1, 1), (2, 1)], True, left, right)
        self.told([(0, 0), (2, 1), (4, 2)], True, left, right)

    def test_other_deeds_than_those_of_fitted(self):
        left = [("write", 0, 1)] * 3
        right = [("read", 0)] * 3
        self.assertEqual(fitted(left, right)[1], [(0, 0), (1, 0), (2, 0)])
        self.told([(0, 0), (2, 1)], True, left, right)
        self.told([(2, 2)], True, left, right)
        # As many as fitted tells, by another deed.
        left = [("write", 0, 1), ("write", 0, 1)]
        self.told([(1, 1)], True, left, right)
        left = [("write", 0, 1), ("write", 1, 1)]
        right = [("read", 0), ("read", 1)]
        self.assertEqual(fitted(left, right)[1], [(0, 0)])
        self.told([(1, 1)], True, left, right)

    def test_numbers_that_no_right_deed_has(self):
        left = [("write", 0, 1)] * 5
        right = [("read", 0)] * 2
        self.told([(1, 1)], True, left, right)
        self.told([(2, 2)], False, left, right)
        self.told([(3, 3)], False, left, right)
        self.told([(40, 40)], False, left, right)
        self.told([(0, 0)], False, left, [])

    def test_negative_numbers(self):
        left = [("write", 0, 1)] * 5
        right = [("read", 0)] * 5
        self.told([(-1, -1)], False, left, right)
        self.told([(-5, -5)], False, left, right)
        self.told([(0, 0), (0, -1)], False, left, right)
        # Its beat is one, though its number is none.
        self.told([(0, -1)], False, left, right)
        self.told([(-1, -1), (0, -1)], False, left, right)

    def test_behind_the_last_left_deed(self):
        right = [("read", 0)] * 3
        self.told([(1, 1)], True, [("write", 0, 1)] * 2, right)
        self.told([(2, 2)], False, [("write", 0, 1)] * 2, right)
        self.told([(0, 0), (1, 0)], True, [("write", 0, 1)] * 2, right)
        self.told([(0, 0), (1, 0), (2, 0)], False, [("write", 0, 1)] * 2, right)
        self.told([(0, 0)], False, [], right)

    def test_no_clash(self):
        self.told([(0, 0)], False, [("read", 0)], [("read", 0)])
        self.told([(0, 0)], False, [("write", 1, 0)], [("read", 0)])
        self.told([(0, 0)], False, [("write", 0, 0)], [REST])
        self.told([(0, 0)], False, [REST], [("write", 0, 0)])
        self.told([(0, 0)], True, [("write", 3, 0)], [("write", 3, 0)])
        self.told([(1, 1)], False, [("write", 0, 0), ("read", 0)], [("read", 0), ("read", 0)])

    def test_many_tuples(self):
        left = [("write", 0, 1)] * 20
        right = [("read", 0)] * 20
        self.told([(beat, 0) for beat in range(20)], True, left, right)
        for many in (21, 40, 41, 60):
            self.told([(beat, 0) for beat in range(many)], False, left, right)

    def test_true_and_false_are_no_numbers(self):
        left = [("write", 0, 1)] * 2
        right = [("read", 0)] * 2
        for reason in [[(False, 0)], [(0, False)], [(True, 1)], [(1, True)]]:
            self.told(reason, False, left, right)

    def test_all_small_reasons(self):
        deeds = [REST, ("read", 0), ("write", 0, 1)]
        programs = [list(program) for many in range(3) for program in product(deeds, repeat=many)]
        tuples = list(product(range(-1, 4), range(-1, 3)))
        reasons = [list(reason) for many in range(3) for reason in product(tuples, repeat=many)]
        for left in programs:
            for right in programs:
                rests = len(fitted(left, right)[1])
                for reason in reasons:
                    told = shows(left, right, reason)
                    self.assertIs(told, really_shows(left, right, reason))
                    if told:
                        self.assertLessEqual(len(reason), rests)


if __name__ == "__main__":
    unittest.main()
