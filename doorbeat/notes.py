"""Two programs as a text of two rows."""

from doorbeat.errors import BadText
from doorbeat.programs import MOST_CELLS, MOST_DEEDS, REST, WORTHS, check_programs


def word_of(deed):
    """Give the word by which a deed is written."""
    if deed[0] == "read":
        return f"r{deed[1]}"
    if deed[0] == "write":
        return f"w{deed[1]}{deed[2]}"
    return "-"


def deeds_by_word():
    """Give all deeds at a memory of four cells by their words."""
    deeds = [REST]
    for cell in range(MOST_CELLS):
        deeds.append(("read", cell))
        deeds.extend([("write", cell, worth) for worth in WORTHS])
    return {word_of(deed): deed for deed in deeds}


def row_of(program):
    """Write one program."""
    return " ".join([word_of(deed) for deed in program])


def program_of(row, number):
    """Read one program from the row of this number."""
    # Split, an empty row would be one empty word, but it stands for no deeds.
    if row == "":
        return []
    deeds = deeds_by_word()
    program = []
    for place, word in enumerate(row.split(" ")):
        if place == MOST_DEEDS or word not in deeds:
            raise BadText(number, place)
        program.append(deeds[word])
    return program


def written(left, right):
    """Write two programs as two rows."""
    check_programs(left, right, MOST_CELLS)
    return f"{row_of(left)}\n{row_of(right)}"


def read(text):
    """Read two programs from two rows; what is wrong is refused in the order of the text."""
    rows = text.split("\n")
    left = program_of(rows[0], 0)
    if len(rows) == 1:
        raise BadText(1, 0)
    right = program_of(rows[1], 1)
    if len(rows) > 2:
        raise BadText(2, 0)
    return left, right
