"""Picking: the so-manieth of many items, found by soft heaps."""

from heapwright.errors import NoPlace
from heapwright.soft import soft_lone, soft_met, soft_taken

FEW = 9
SLACK = 4


def greatest_taken(items, takes):
    """Tell the greatest of so many items that are taken out of a soft heap into which all items were put."""
    shape = ()
    for item in items:
        # Items are unlike, but their tickets may not be, so nothing is refused here.
        shape = soft_met(shape, soft_lone(item), SLACK)
    told = []
    for turn in range(takes):
        item, shape = soft_taken(shape, slack=SLACK)
        told.append(item)
    return max(told)


def picked(items, number):
    """Tell the item that number others are less than, and how many were taken out to find it; raise NoPlace."""
    if number < 0 or number >= len(items):
        raise NoPlace("there is no item of this number")
    takes = 0
    while len(items) > FEW:
        third = len(items) // 3
        takes += third
        parting = greatest_taken(items, third)
        lesser = [item for item in items if item < parting]
        if number == len(lesser):
            return parting, takes
        if number < len(lesser):
            items = lesser
        else:
            items = [item for item in items if item > parting]
            number -= len(lesser) + 1
    return sorted(items)[number], takes
