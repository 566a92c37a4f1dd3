"""[2]: numbers, what lies above what, at most 24, taking out."""

from fewladders.errors import Full
from fewladders.hall import Hall
from tests.plain import Both, Checks, built


class Numbers(Checks):
    def test_from_nought_on(self):
        hall = Hall()
        self.assertEqual([hall.put([])[0] for _ in range(24)], list(range(24)))
        self.assertEqual(hall.things(), list(range(24)))

    def test_not_given_again(self):
        hall = built([[], [], []])
        hall.take(2)
        self.assertEqual(hall.put([])[0], 3)
        hall.take(0)
        hall.take(1)
        hall.take(3)
        self.assertEqual(hall.things(), [])
        self.assertEqual(hall.put([])[0], 4)
        self.assertEqual(hall.things(), [4])

    def test_far_beyond_24_things_in_turn(self):
        hall = Hall()
        for number in range(300):
            self.assertEqual(hall.put([number - 1] if number else [])[0], number)
            if number >= 20:
                hall.take(number - 20)
        self.assertEqual(hall.things(), list(range(280, 300)))
        self.assertTrue(hall.lies_above(299, 280))
        self.assertEqual(hall.ladders(), [list(range(280, 300))])


class Order(Checks):
    def test_above_these_and_all_that_they_lie_above(self):
        hall = built([[], [0], [], [1, 2]])
        self.assertIs(hall.lies_above(3, 0), True)
        self.assertIs(hall.lies_above(3, 1), True)
        self.assertIs(hall.lies_above(3, 2), True)
        self.assertIs(hall.lies_above(2, 1), False)
        self.assertIs(hall.lies_above(0, 3), False)
        self.assertIs(hall.lies_above(3, 3), False)

    def test_nothing_lies_above_a_new_thing(self):
        hall = built([[], [0], [1], []])
        self.assertFalse(any(hall.lies_above(one, 3) for one in range(3)))
        self.assertFalse(any(hall.lies_above(3, one) for one in range(3)))

    def test_taken_from_the_middle_the_others_lie_as_they_did(self):
        hall = built([[], [0], [1], [], [2, 3]])
        hall.take(1)
        self.assertTrue(hall.lies_above(2, 0))
        self.assertTrue(hall.lies_above(4, 0))
        hall.take(2)
        self.assertTrue(hall.lies_above(4, 0))
        self.assertFalse(hall.lies_above(3, 0))
        self.assertEqual(hall.things(), [0, 3, 4])

    def test_above_what_outlives_the_middle(self):
        hall = built([[], [0], [1]])
        hall.take(1)
        number = hall.put([2])[0]
        self.assertTrue(hall.lies_above(number, 0))

    def test_above_all(self):
        both = Both(self)
        for some in ([], [0], [], [2], [3, 1], [4, 2, 0, 1, 3]):
            both.put(some)
            self.check_hall(both.hall, both.plain)

    def test_in_any_order(self):
        one = built([[], [], [0], [1], [0, 1, 2, 3]])
        other = built([[], [], [0], [1], [3, 0, 2, 1]])
        self.assertEqual(one.lies_above(4, 3), other.lies_above(4, 3))
        self.assertEqual(one.ladders(), other.ladders())
        self.assertEqual(one.put([4, 1]), other.put([1, 4]))
        self.assertEqual(one.ladders(), other.ladders())


class MostThere(Checks):
    def test_24_are_there_and_no_more(self):
        hall = built([[]] * 24)
        self.check_refused(hall, Full, "put", [])
        self.check_refused(hall, Full, "put", [23, 0])
        self.assertEqual(len(hall.free()), 24)

    def test_room_again_behind_a_taking_out(self):
        hall = built([[]] * 24)
        self.check_refused(hall, Full, "put", [0])
        hall.take(5)
        self.assertEqual(hall.put([0])[0], 24)
        self.check_refused(hall, Full, "put", [0])
        self.assertEqual(len(hall.things()), 24)


class WithoutThings(Checks):
    def test_all_is_empty(self):
        emptied = built([[], [0]])
        emptied.take(0)
        emptied.take(1)
        for hall in (Hall(), emptied):
            for told in (hall.things(), hall.ladders(), hall.free(), hall.floors(), hall.longest()):
                self.assertEqual(told, [])
                self.assertIs(type(told), list)
            self.assertEqual(hall.parted([]), ([], []))

    def test_one_thing(self):
        hall = Hall()
        self.assertEqual(hall.put([]), (0, []))
        self.assertEqual(hall.things(), [0])
        self.assertEqual(hall.ladders(), [[0]])
        self.assertEqual(hall.free(), [0])
        self.assertEqual(hall.floors(), [[0]])
        self.assertEqual(hall.longest(), [0])
        self.assertEqual(hall.parted([0]), ([[0]], [0]))
        self.assertEqual(hall.with_thing(0), [0])
        self.assertIsNone(hall.without_thing(0))
        self.assertEqual(hall.standing(0), "every")
        self.assertIs(hall.lies_above(0, 0), False)
        self.assertEqual(hall.take(0), [])
