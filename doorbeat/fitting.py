"""Rests put into the right program until it has no clash with the left one."""

from doorbeat.programs import MOST_CELLS, REST, check_programs, clash, is_whole
from doorbeat.running import due

MOST_TO_FIT = 20


def fitted(left, right):
    """Tell the right program with the fewest rests by which nothing clashes, and why each rest is put in."""
    check_programs(left, right, MOST_CELLS, MOST_TO_FIT)
    program = []
    reason = []
    for number, deed in enumerate(right):
        # The sooner a deed is done, the sooner all later ones may be:
        # so each one as soon as it can be needs the fewest rests.
        while clash(due(left, len(program)), deed):
            reason.append((len(program), number))
            program.append(REST)
        program.append(deed)
    return program, reason


def shows(left, right, reason):
    """Tell whether the reason shows that fewer rests than it has tuples don't do."""
    check_programs(left, right, MOST_CELLS, MOST_TO_FIT)
    least = 0
    for ahead, (beat, number) in enumerate(reason):
        if not is_whole(beat) or not is_whole(number):
            return False
        if not least <= number < len(right) or beat != number + ahead:
            return False
        if not clash(due(left, beat), right[number]):
            return False
        least = number
    return True
