"""Floors, and the longest ladder.

In each function `below` has for each thing a list of all that it lies above.
"""


def all_floors(below):
    """The things of each floor, rising, from the lowest floor on."""
    floor_of = {}
    floors = []
    # What a thing lies above was put in before it, so those floors are known by then.
    for one in sorted(below):
        floor = 1 + max([floor_of[low] for low in below[one]], default=-1)
        floor_of[one] = floor
        if floor == len(floors):
            floors.append([])
        floors[floor].append(one)
    return floors


def longest_ladder(below):
    """A ladder with one thing of each floor, its lowest thing first."""
    ladder = []
    for floor in reversed(all_floors(below)):
        if ladder:
            under = [one for one in floor if one in below[ladder[-1]]]
            ladder.append(under[0])
        else:
            ladder.append(floor[0])
    return ladder[::-1]
