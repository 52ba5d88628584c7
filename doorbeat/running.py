"""Two programs at the two doors of a memory, beat by beat."""

from doorbeat.errors import BadRule
from doorbeat.programs import MOST_CELLS, REST, check_memory, check_programs, clash


def read_cell(worths, deed, seen):
    """Note the worth that stands in the cell, if the deed is a read."""
    if deed[0] == "read":
        seen.append(worths[deed[1]])


def write_cell(worths, deed):
    """Set the cell to the worth, if the deed is a write."""
    if deed[0] == "write":
        worths[deed[1]] = deed[2]


def write_both(worths, deed, other):
    """Do the writes of one beat so that of two worths for a cell the left one's stands."""
    # The left one's comes last, over the right one's.
    write_cell(worths, other)
    write_cell(worths, deed)


def step_old(worths, deed, other, seen, others):
    """Do a beat in which both read what stood ahead of it."""
    read_cell(worths, deed, seen)
    read_cell(worths, other, others)
    write_both(worths, deed, other)


def step_new(worths, deed, other, seen, others):
    """Do a beat in which both read what is written in it."""
    write_both(worths, deed, other)
    read_cell(worths, deed, seen)
    read_cell(worths, other, others)


def step_left(worths, deed, other, seen, others):
    """Do a beat in which the left deed is done first."""
    read_cell(worths, deed, seen)
    write_cell(worths, deed)
    read_cell(worths, other, others)
    write_cell(worths, other)


def step_right(worths, deed, other, seen, others):
    """Do a beat in which the right deed is done first."""
    step_left(worths, other, deed, others, seen)


# By "wait" two deeds done in one beat don't clash, so either one may be done first.
STEPS = {"old": step_old, "new": step_new, "left": step_left, "right": step_right, "wait": step_left}
RULES = ("old", "new", "left", "right", "wait")


def check_rule(rule):
    """Refuse what is no rule."""
    if rule not in RULES:
        raise BadRule("a rule is old, new, left, right or wait")


def due(program, place):
    """Give the deed at this place: a rest, behind the last deed."""
    if place < len(program):
        return program[place]
    return REST


def play(rule, memory, left, right):
    """Do what run tells, with a rule, a memory and programs that are known to be good."""
    step = STEPS[rule]
    worths = list(memory)
    seen = []
    others = []
    # The left program never waits, so its place is the number of the beat.
    beats = 0
    place = 0
    while beats < len(left) or place < len(right):
        deed = due(left, beats)
        other = due(right, place)
        if rule == "wait" and clash(deed, other):
            other = REST
        else:
            place += 1
        step(worths, deed, other, seen, others)
        beats += 1
    return seen, others, tuple(worths), beats


def run(rule, memory, left, right):
    """Tell the worths read at the left and at the right door, the memory at last, and the number of beats."""
    check_rule(rule)
    check_memory(memory)
    check_programs(left, right, len(memory))
    return play(rule, memory, left, right)


def clashes(left, right):
    """Tell the numbers of the beats in which both doors clash, rising."""
    check_programs(left, right, MOST_CELLS)
    # Behind the last deed of the shorter one there are only rests, which clash with nothing.
    return [beat for beat, (deed, other) in enumerate(zip(left, right)) if clash(deed, other)]
