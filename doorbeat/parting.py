"""Memories by which rules part."""

from doorbeat.programs import WORTHS, check_cells, check_programs
from doorbeat.running import RULES, play


def all_memories(cells):
    """Give all memories of so many cells, as tuples ascend."""
    memories = [()]
    for _ in range(cells):
        memories = [(*memory, worth) for memory in memories for worth in WORTHS]
    return memories


def outcome(rule, memory, left, right):
    """Tell what is read and what stands at last; the beats do not count when rules part."""
    seen, others, last, _ = play(rule, memory, left, right)
    return seen, others, last


def parting(cells, left, right):
    """Tell the first memory by which two rules part, and the first such pair of rules, or None."""
    check_cells(cells)
    check_programs(left, right, cells)
    # Where two rules part, one of the two parts from the first rule, too:
    # so the first pair always begins with that rule.
    first = RULES[0]
    for memory in all_memories(cells):
        usual = outcome(first, memory, left, right)
        for other in RULES[1:]:
            if outcome(other, memory, left, right) != usual:
                return memory, first, other
    return None
