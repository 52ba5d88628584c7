"""Memories and programs: what they are, and what is refused."""

from doorbeat.errors import BadMemory, BadProgram

MOST_CELLS = 4
MOST_DEEDS = 40
WORTHS = (0, 1, 2)
REST = ("rest",)


def is_whole(value):
    """Tell whether this is a whole number."""
    # Python counts True and False as integers; here they are no numbers.
    return isinstance(value, int) and not isinstance(value, bool)


def is_cell(value, cells):
    """Tell whether a memory of so many cells has this cell."""
    return is_whole(value) and 0 <= value < cells


def is_worth(value):
    """Tell whether a cell may have this worth."""
    return is_whole(value) and value in WORTHS


def is_deed(deed, cells):
    """Tell whether this is a deed at a memory of so many cells."""
    if not isinstance(deed, tuple) or len(deed) == 0:
        return False
    if deed[0] == "read":
        return len(deed) == 2 and is_cell(deed[1], cells)
    if deed[0] == "write":
        return len(deed) == 3 and is_cell(deed[1], cells) and is_worth(deed[2])
    return deed == REST


def check_cells(cells):
    """Refuse a count of cells that no memory has."""
    if not is_whole(cells) or not 1 <= cells <= MOST_CELLS:
        raise BadMemory("a memory has 1 to 4 cells")


def check_memory(memory):
    """Refuse what is no memory."""
    if not isinstance(memory, tuple):
        raise BadMemory("a memory is a tuple")
    check_cells(len(memory))
    for worth in memory:
        if not is_worth(worth):
            raise BadMemory("a worth is 0, 1 or 2")


def check_program(door, program, cells, most):
    """Refuse what is no program of at most so many deeds at a memory of so many cells."""
    if not isinstance(program, list):
        raise BadProgram(door, 0)
    for place, deed in enumerate(program):
        if place == most or not is_deed(deed, cells):
            raise BadProgram(door, place)


def check_programs(left, right, cells, most=MOST_DEEDS):
    """Refuse two programs if one is none, the left one first."""
    check_program(0, left, cells, most)
    check_program(1, right, cells, most)


def clash(deed, other):
    """Tell whether two deeds in one beat are at one cell, and one of them writes."""
    if deed == REST or other == REST:
        return False
    return deed[1] == other[1] and (deed[0] == "write" or other[0] == "write")
