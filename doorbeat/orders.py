"""All deeds of two programs done one by one."""

from doorbeat.errors import BadMemory, BadOrder, TooMany
from doorbeat.programs import check_memory, check_programs, is_worth
from doorbeat.running import read_cell, write_cell

LEFT = "l"
RIGHT = "r"
MOST_TO_ORDER = 6


def check_order(order, left, right):
    """Refuse what is no order of the deeds of two programs."""
    if not isinstance(order, str) or len(order) != len(left) + len(right):
        raise BadOrder("an order has one sign for each deed")
    if order.count(LEFT) != len(left) or order.count(RIGHT) != len(right):
        raise BadOrder("an order has an l for each left deed and an r for each right one")


def check_last(last, memory):
    """Refuse what can't be the memory at last."""
    check_memory(last)
    if len(last) != len(memory):
        raise BadMemory("the memory at last has as many cells as the one ahead")


def check_few(left, right):
    """Refuse programs of too many deeds to try all orders."""
    if len(left) > MOST_TO_ORDER or len(right) > MOST_TO_ORDER:
        raise TooMany("at most six deeds are put in all orders")


def all_orders(left, right):
    """Give all orders of the deeds of two programs, as texts ascend."""
    many = {LEFT: len(left), RIGHT: len(right)}
    orders = [""]
    for _ in range(len(left) + len(right)):
        orders = [order + door for order in orders for door in (LEFT, RIGHT) if order.count(door) < many[door]]
    return orders


def do_deed(worths, deed, seen):
    """Do one deed, with nothing beside it."""
    read_cell(worths, deed, seen)
    write_cell(worths, deed)


def follow(memory, left, right, order):
    """Do what ordered tells, with a memory, programs and an order that are known to be good."""
    worths = list(memory)
    seen = []
    others = []
    place = 0
    for done, door in enumerate(order):
        if door == LEFT:
            do_deed(worths, left[place], seen)
            place += 1
        else:
            # What is done and was not at the left door was at the right one.
            do_deed(worths, right[done - place], others)
    return tuple(seen), tuple(others), tuple(worths)


def ordered(memory, left, right, order):
    """Tell the worths read at the left and at the right door, and the memory at last, by one order."""
    check_memory(memory)
    check_programs(left, right, len(memory))
    check_order(order, left, right)
    return follow(memory, left, right, order)


def explained(memory, left, right, seen, others, last):
    """Tell the first order by which just these worths are read and just this memory stands at last, or None."""
    check_memory(memory)
    check_programs(left, right, len(memory))
    check_last(last, memory)
    check_few(left, right)
    # True and False are never read, though Python finds them equal to 1 and 0.
    if not all([is_worth(worth) for worth in [*seen, *others]]):
        return None
    wanted = (tuple(seen), tuple(others), last)
    for order in all_orders(left, right):
        if follow(memory, left, right, order) == wanted:
            return order
    return None


def outcomes(memory, left, right):
    """Tell all that comes by some order, rising."""
    check_memory(memory)
    check_programs(left, right, len(memory))
    check_few(left, right)
    return sorted({follow(memory, left, right, order) for order in all_orders(left, right)})
