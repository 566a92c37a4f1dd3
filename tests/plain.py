"""A second, plain reckoning of halls, and checks of what a hall tells against it."""

import unittest
from itertools import combinations

from fewladders.errors import HallError
from fewladders.hall import Hall


class PlainHall:
    """Keeps for ever above what each thing was put, and walks down from there."""

    def __init__(self):
        self.put_above = []
        self.there = []

    def put(self, some):
        self.put_above.append(list(some))
        self.there.append(len(self.put_above) - 1)
        return self.there[-1]

    def take(self, one):
        self.there.remove(one)

    def all_below(self, one):
        """All that one lies above, those taken out among them."""
        found = set()
        waiting = list(self.put_above[one])
        while waiting:
            low = waiting.pop()
            if low not in found:
                found.add(low)
                waiting += self.put_above[low]
        return found

    def order(self):
        """For each thing there the set of those there that it lies above."""
        return {one: self.all_below(one) & set(self.there) for one in self.there}


def are_apart(order, one, other):
    return one != other and one not in order[other] and other not in order[one]


def is_free(order, some):
    return all(are_apart(order, one, other) for one, other in combinations(some, 2))


def greatest_free_sets(order):
    """All greatest free sets, by trying all sets of things."""
    for size in range(len(order), -1, -1):
        found = [list(some) for some in combinations(sorted(order), size) if is_free(order, some)]
        if found:
            return found


def plain_floors(order):
    """The floors by taking away, again and again, what lies above nothing that is left."""
    left = set(order)
    floors = []
    while left:
        floors.append(sorted(one for one in left if not order[one] & left))
        left -= set(floors[-1])
    return floors


def stands_of(ladders):
    """What stands right beneath what: a dict from the upper to the lower thing."""
    return {up: low for ladder in ladders for low, up in zip(ladder, ladder[1:])}


def everything(hall):
    """All that a hall tells of itself without an error."""
    things = hall.things()
    return {
        "things": things,
        "order": [(a, b, hall.lies_above(a, b)) for a in things for b in things],
        "ladders": hall.ladders(),
        "free": hall.free(),
        "floors": hall.floors(),
        "longest": hall.longest(),
        "parted": [hall.parted(things), hall.parted(things[::2]), hall.parted(things[1:])],
        "with": [hall.with_thing(one) for one in things],
        "without": [hall.without_thing(one) for one in things],
        "standing": [hall.standing(one) for one in things],
    }


def built(puts):
    """A hall, and above what its things 0, 1 and so on are put."""
    hall = Hall()
    for some in puts:
        hall.put(some)
    return hall


class Checks(unittest.TestCase):
    """Checks of what is told, each against what the plain reckoning says."""

    def check_list(self, told):
        self.assertIs(type(told), list)
        for one in told:
            self.assertIs(type(one), int)

    def check_ladders(self, ladders, some, order):
        """[3]: ladders of just these things, told by their lowest things, rising."""
        self.assertIs(type(ladders), list)
        for ladder in ladders:
            self.check_list(ladder)
            self.assertTrue(ladder)
            for low, up in zip(ladder, ladder[1:]):
                self.assertIn(low, order[up])
        self.assertEqual(sorted(one for ladder in ladders for one in ladder), sorted(some))
        lowest = [ladder[0] for ladder in ladders]
        self.assertEqual(lowest, sorted(lowest))

    def check_free(self, free, some, order):
        """[4]: things of these that are apart, two by two, rising."""
        self.check_list(free)
        self.assertEqual(free, sorted(set(free)))
        self.assertLessEqual(set(free), set(some))
        self.assertTrue(is_free(order, free))

    def check_both(self, ladders, free, some, order):
        """[3] and [4]: neither can be bettered where both are as many."""
        self.check_ladders(ladders, some, order)
        self.check_free(free, some, order)
        self.assertEqual(len(ladders), len(free))

    def check_order(self, hall, plain):
        """[2]: the numbers, and what lies above what."""
        order = plain.order()
        self.check_list(hall.things())
        self.assertEqual(hall.things(), plain.there)
        for one in order:
            for other in order:
                self.assertIs(hall.lies_above(one, other), other in order[one])
        return order

    def check_row(self, row, stands, ladders):
        """[5]: along the row, what stood at first becomes what stands behind the deed."""
        self.assertIs(type(row), list)
        stands = dict(stands)
        for pair in row:
            self.assertIs(type(pair), tuple)
            self.check_list(list(pair))
        if row:
            self.assertNotIn(row[0][0], stands)
            self.assertNotIn(row[-1][1], stands.values())
        for (_, low), (up, _) in zip(row, row[1:]):
            self.assertEqual(stands[up], low)
        self.assertEqual(len({up for up, _ in row}), len(row))
        self.assertEqual(len({low for _, low in row}), len(row))
        stands.update(row)
        self.assertEqual(stands, stands_of(ladders))

    def check_floors(self, hall, order):
        """[6]."""
        floors = hall.floors()
        self.assertIs(type(floors), list)
        for floor in floors:
            self.check_list(floor)
        self.assertEqual(floors, plain_floors(order))
        longest = hall.longest()
        self.check_list(longest)
        self.assertEqual(len(longest), len(floors))
        for one, floor in zip(longest, floors):
            self.assertIn(one, floor)
        for low, up in zip(longest, longest[1:]):
            self.assertIn(low, order[up])

    def check_parted(self, hall, some, order):
        """[8]. Returns how many ladders these things have."""
        told = hall.parted(some)
        self.assertIs(type(told), tuple)
        ladders, free = told
        self.check_both(ladders, free, some, order)
        return len(ladders)

    def check_standing(self, hall, order):
        """[7], as [8] tells how to see it."""
        most = len(hall.ladders())
        for one in order:
            apart = [other for other in order if are_apart(order, one, other)]
            others = [other for other in order if other != one]
            able = self.check_parted(hall, apart, order) == most - 1
            spared = self.check_parted(hall, others, order) == most
            self.check_found(hall.with_thing(one), able, order, most)
            self.check_found(hall.without_thing(one), spared, order, most)
            if able:
                self.assertIn(one, hall.with_thing(one))
            if spared:
                self.assertNotIn(one, hall.without_thing(one))
            word = ("some" if spared else "every") if able else "no"
            self.assertEqual(hall.standing(one), word)

    def check_found(self, found, there_is, order, most):
        if not there_is:
            self.assertIsNone(found)
            return
        self.check_free(found, list(order), order)
        self.assertEqual(len(found), most)

    def check_hall(self, hall, plain):
        """All that the hall tells, but for the rows."""
        order = self.check_order(hall, plain)
        self.check_both(hall.ladders(), hall.free(), plain.there, order)
        self.check_floors(hall, order)
        self.check_standing(hall, order)
        return order

    def check_refused(self, hall, error, method, *given):
        """A refusal by just this class, behind which all is told as before."""
        before = everything(hall)
        with self.assertRaises(HallError) as caught:
            getattr(hall, method)(*given)
        self.assertIs(type(caught.exception), error)
        self.assertEqual(everything(hall), before)


class Both:
    """A hall and its plain reckoning, to which the same deeds are done, each with its row."""

    def __init__(self, checks):
        self.checks = checks
        self.hall = Hall()
        self.plain = PlainHall()

    def put(self, some):
        stands = stands_of(self.hall.ladders())
        told = self.hall.put(some)
        self.checks.assertIs(type(told), tuple)
        number, row = told
        self.checks.assertIs(type(number), int)
        self.checks.assertEqual(number, self.plain.put(some))
        self.check_behind(row, stands)
        return row

    def take(self, one):
        before = stands_of(self.hall.ladders())
        stands = {up: low for up, low in before.items() if one not in (up, low)}
        if one in before and one in before.values():
            upper = [up for up in before if before[up] == one][0]
            stands[upper] = before[one]
        row = self.hall.take(one)
        self.plain.take(one)
        self.check_behind(row, stands)
        return row

    def check_behind(self, row, stands):
        order = self.plain.order()
        for up, low in row:
            self.checks.assertIn(low, order[up])
        self.checks.check_row(row, stands, self.hall.ladders())
        self.checks.check_both(self.hall.ladders(), self.hall.free(), self.plain.there, order)
