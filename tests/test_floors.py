"""[6]: floors and the longest ladder."""

from tests.plain import Both, Checks, built


class Floors(Checks):
    def test_one_more_than_the_greatest(self):
        hall = built([[], [0], [], [1, 2], [2], [3, 4]])
        self.assertEqual(hall.floors(), [[0, 2], [1, 4], [3], [5]])
        self.assertEqual(hall.longest(), [0, 1, 3, 5])

    def test_one_floor(self):
        hall = built([[], [], []])
        self.assertEqual(hall.floors(), [[0, 1, 2]])
        self.assertEqual(len(hall.longest()), 1)

    def test_24_floors(self):
        hall = built([[one - 1] if one else [] for one in range(24)])
        self.assertEqual(hall.floors(), [[one] for one in range(24)])
        self.assertEqual(hall.longest(), list(range(24)))

    def test_sink_when_a_thing_is_taken_out(self):
        hall = built([[], [0], [1], [0]])
        hall.take(0)
        self.assertEqual(hall.floors(), [[1, 3], [2]])
        self.assertEqual(hall.longest(), [1, 2])
        hall.take(1)
        self.assertEqual(hall.floors(), [[2, 3]])

    def test_the_longest_goes_down_where_it_must(self):
        # On each floor the first thing is one that the longest ladder can't have.
        both = Both(self)
        for some in ([], [], [0], [1], [3]):
            both.put(some)
        self.assertEqual(both.hall.floors(), [[0, 1], [2, 3], [4]])
        self.assertEqual(both.hall.longest(), [1, 3, 4])
        self.check_floors(both.hall, both.plain.order())
