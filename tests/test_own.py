"""[1] and [9]: what is told is the asker's own, and told again the same."""

from copy import deepcopy

from fewladders.hall import Hall
from tests.plain import Checks, built, everything

PUTS = [[], [], [0, 1], [0], [2], [3, 2], [], [6, 4]]


def spoil(told):
    """Do to a told list, and to the lists in it, what can be done."""
    for part in told:
        if isinstance(part, list):
            spoil(part)
    if isinstance(told, list):
        told.reverse()
        told.append(99)
        told[0] = None


def spoil_all(hall):
    one = hall.things()[2]
    for told in (hall.things(), hall.ladders(), hall.free(), hall.floors(), hall.longest(),
                 hall.parted(hall.things()), hall.parted([one]), hall.with_thing(one) or [],
                 hall.without_thing(one) or []):
        spoil(told)


class AskersOwn(Checks):
    def test_what_is_done_to_told_lists(self):
        hall = built(PUTS)
        before = everything(hall)
        spoil_all(hall)
        self.assertEqual(everything(hall), before)

    def test_what_is_done_to_rows(self):
        hall, same = Hall(), Hall()
        for some in PUTS:
            told = hall.put(some)
            self.assertEqual(told, same.put(some))
            spoil(told[1])
            self.assertEqual(everything(hall), everything(same))
        for gone in (2, 0, 5):
            row = hall.take(gone)
            self.assertEqual(row, same.take(gone))
            spoil(row)
            self.assertEqual(everything(hall), everything(same))

    def test_what_later_deeds_do(self):
        hall = Hall()
        told = []
        kept = []
        for some in PUTS:
            told.append([hall.put(some), everything(hall)])
            kept.append(deepcopy(told[-1]))
        for gone in (2, 0, 5, 7):
            told.append([hall.take(gone), everything(hall)])
            kept.append(deepcopy(told[-1]))
        self.assertEqual(told, kept)

    def test_lists_handed_in_are_not_changed(self):
        hall = built([[], [], []])
        some = [2, 0]
        hall.put(some)
        self.assertEqual(some, [2, 0])
        some = [3, 1, 0]
        hall.parted(some)
        self.assertEqual(some, [3, 1, 0])

    def test_lists_handed_in_are_not_kept(self):
        hall = built([[], [], []])
        some = [2, 0]
        hall.put(some)
        before = everything(hall)
        some.append(1)
        some[0] = 1
        self.assertEqual(everything(hall), before)
        some = [3, 1, 0]
        told = hall.parted(some)
        kept = deepcopy(told)
        some.clear()
        self.assertEqual(told, kept)

    def test_two_halls_do_not_touch_each_other(self):
        one = built(PUTS)
        before = everything(one)
        other = Hall()
        self.assertEqual(other.things(), [])
        self.assertEqual(other.put([])[0], 0)
        other.put([0])
        other.take(0)
        self.assertEqual(everything(one), before)
        one.take(3)
        self.assertEqual(other.things(), [1])
        self.assertEqual(one.put([])[0], len(PUTS))
        self.assertEqual(other.put([])[0], 2)


class AskedAgain(Checks):
    def test_the_same_is_told(self):
        hall = built(PUTS)
        before = everything(hall)
        self.assertEqual(everything(hall), before)
        hall.take(2)
        before = everything(hall)
        self.assertEqual(everything(hall), before)

    def test_other_questions_between(self):
        hall = built(PUTS)
        ladders, free, longest = hall.ladders(), hall.free(), hall.longest()
        for one in hall.things():
            hall.with_thing(one)
            hall.parted([one])
        spoil_all(hall)
        self.assertEqual((hall.ladders(), hall.free(), hall.longest()), (ladders, free, longest))

    def test_some_things_in_another_order(self):
        hall = built(PUTS)
        things = hall.things()
        self.assertEqual(hall.parted(things), hall.parted(things[::-1]))
