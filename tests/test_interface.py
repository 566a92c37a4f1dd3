"""The interface: names, arguments, errors, and the turn of the refusals."""

import inspect
import unittest

from fewladders import errors, hall as hall_file
from fewladders.errors import Full, HallError, NoThing, Twice
from fewladders.hall import Hall
from tests.plain import Checks, built, everything

ARGUMENTS = {
    "put": ["some"], "take": ["one"], "things": [], "lies_above": ["one", "other"],
    "ladders": [], "free": [], "floors": [], "longest": [], "parted": ["some"],
    "with_thing": ["one"], "without_thing": ["one"], "standing": ["one"],
}


class Strange:
    """Would pass for any thing there if it were only compared."""

    def __eq__(self, other):
        return True

    def __hash__(self):
        return 1


class Unhelpful:
    """Can be neither compared, nor looked up, nor shown."""

    def __eq__(self, other):
        raise RuntimeError("not to be compared")

    def __hash__(self):
        raise RuntimeError("not to be looked up")

    def __repr__(self):
        raise RuntimeError("not to be shown")

    def __iter__(self):
        raise RuntimeError("not to be gone over")


class Whole(int):
    """A kind of its own."""


def endless():
    inner = []
    inner.append(inner)
    return inner


def no_things():
    """What is no thing of a hall with the things 0, 1 and 3."""
    return [None, True, False, "", "0", "one", b"0", 0.0, 1.0, float("nan"), float("inf"), 1j,
            (), (0,), [], [0], [[0]], endless(), {}, {0: 1}, set(), {0}, frozenset(), range(1),
            object(), int, Hall, Hall(), len, Strange(), Unhelpful(), Whole(1), lambda: 0,
            -1, -3, 2, 4, 24, 10 ** 40, 10 ** 9000, -10 ** 9000, 2 ** 64, 1 << 100000]


def no_lists():
    return [None, True, False, 0, 1, "", "01", b"", 0.5, (), (0, 1), {}, {0: 1}, set(), {0},
            range(2), iter([0]), (one for one in [0]), object(), list, Hall(), Strange(),
            Unhelpful(), 10 ** 9000]


def small_hall():
    """With the things 0, 1 and 3; 2 is taken out."""
    hall = built([[], [0], [1], [0]])
    hall.take(2)
    return hall


class Names(unittest.TestCase):
    def test_errors(self):
        self.assertEqual(HallError.__bases__, (ValueError,))
        for error in (NoThing, Twice, Full):
            self.assertEqual(error.__bases__, (HallError,))
        for error in (HallError, NoThing, Twice, Full):
            self.assertEqual(error.__module__, errors.__name__)

    def test_methods_and_arguments(self):
        self.assertEqual(Hall.__module__, hall_file.__name__)
        self.assertEqual(list(inspect.signature(Hall).parameters), [])
        for name, arguments in ARGUMENTS.items():
            found = list(inspect.signature(vars(Hall)[name]).parameters)
            self.assertEqual(found[1:], arguments)

    def test_by_keyword(self):
        hall = Hall()
        hall.put(some=[])
        hall.put(some=[0])
        self.assertTrue(hall.lies_above(one=1, other=0))
        self.assertEqual(hall.parted(some=[1])[0], [[1]])
        self.assertEqual(hall.with_thing(one=1), [1])
        self.assertEqual(hall.without_thing(one=1), [0])
        self.assertEqual(hall.standing(one=1), "some")
        self.assertEqual(hall.take(one=1), [])


class Refusals(Checks):
    def test_what_is_no_thing(self):
        hall = small_hall()
        for wrong in no_things():
            for method in ("take", "with_thing", "without_thing", "standing"):
                self.check_refused(hall, NoThing, method, wrong)
            self.check_refused(hall, NoThing, "lies_above", wrong, 0)
            self.check_refused(hall, NoThing, "lies_above", 0, wrong)
            self.check_refused(hall, NoThing, "lies_above", wrong, wrong)

    def test_what_is_no_list(self):
        hall = small_hall()
        for wrong in no_lists():
            self.check_refused(hall, NoThing, "put", wrong)
            self.check_refused(hall, NoThing, "parted", wrong)
        self.assertEqual(hall.put([])[0], 4)

    def test_lists_with_what_is_no_thing(self):
        hall = small_hall()
        for wrong in no_things():
            for some in ([wrong], [0, wrong], [wrong, 3, 1]):
                self.check_refused(hall, NoThing, "put", some)
                self.check_refused(hall, NoThing, "parted", some)
        self.assertEqual(hall.put([])[0], 4)

    def test_no_thing_in_a_hall_without_things(self):
        hall = Hall()
        for method in ("take", "with_thing", "without_thing", "standing"):
            self.check_refused(hall, NoThing, method, 0)
        self.check_refused(hall, NoThing, "put", [0])
        self.check_refused(hall, NoThing, "parted", [0])
        self.check_refused(hall, NoThing, "lies_above", 0, 0)
        self.assertEqual(hall.put([])[0], 0)

    def test_above_itself(self):
        hall = small_hall()
        self.check_refused(hall, NoThing, "put", [4])

    def test_twice(self):
        hall = small_hall()
        for some in ([0, 0], [3, 1, 3], [1, 0, 3, 1], [0] * 500):
            self.check_refused(hall, Twice, "put", some)
            self.check_refused(hall, Twice, "parted", some)
        self.assertEqual(hall.put([0, 1, 3])[0], 4)

    def test_no_thing_is_told_ahead_of_twice(self):
        hall = small_hall()
        for some in ([0, 0, 2], [None, 1, 1], [True, True], [2, 2], [0, False], [0, 0, [0]]):
            self.check_refused(hall, NoThing, "put", some)
            self.check_refused(hall, NoThing, "parted", some)

    def test_both_are_told_ahead_of_full(self):
        hall = built([[]] * 24)
        self.check_refused(hall, NoThing, "put", [24])
        self.check_refused(hall, NoThing, "put", None)
        self.check_refused(hall, NoThing, "put", [0, 0, "x"])
        self.check_refused(hall, Twice, "put", [7, 7])
        self.check_refused(hall, Full, "put", [7])
        self.assertEqual(hall.parted([7]), ([[7]], [7]))
        hall.take(0)
        self.assertEqual(hall.put([])[0], 24)

    def test_a_thing_taken_out_is_refused_for_ever(self):
        hall = small_hall()
        self.check_refused(hall, NoThing, "take", 2)
        hall.put([])
        self.check_refused(hall, NoThing, "take", 2)
        self.check_refused(hall, NoThing, "lies_above", 4, 2)
        self.check_refused(hall, NoThing, "put", [2])

    def test_the_lists_of_a_refusal_are_not_changed(self):
        hall = small_hall()
        for some in ([3, 0, 0], [1, 0, 9], [3, None]):
            handed = list(some)
            for method in (hall.put, hall.parted):
                with self.assertRaises(HallError):
                    method(handed)
                self.assertEqual(handed, some)

    def test_refused_deeds_change_no_later_deed(self):
        hall, same = small_hall(), small_hall()
        for wrong in ([2], [0, 0], None):
            with self.assertRaises(HallError):
                hall.put(wrong)
        with self.assertRaises(NoThing):
            hall.take(2)
        self.assertEqual(hall.put([3, 1]), same.put([3, 1]))
        self.assertEqual(everything(hall), everything(same))
