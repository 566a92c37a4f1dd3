"""[3], [4], [5] and [8]: ladders, free sets, rows of pairs, and some things alone."""

from itertools import combinations, product

from tests.plain import Both, Checks, built, greatest_free_sets, is_free, PlainHall


def every_small_hall(size):
    """Above what the things of a hall are put, in every way that there is."""
    ways = [[some for many in range(one + 1) for some in combinations(range(one), many)]
            for one in range(size)]
    return product(*ways)


class Ladders(Checks):
    def test_one_above_another(self):
        hall = built([[], [0], [1], [2]])
        self.assertEqual(hall.ladders(), [[0, 1, 2, 3]])
        self.assertEqual(len(hall.free()), 1)

    def test_all_apart(self):
        hall = built([[], [], [], []])
        self.assertEqual(hall.ladders(), [[0], [1], [2], [3]])
        self.assertEqual(hall.free(), [0, 1, 2, 3])

    def test_where_the_nearest_choice_is_wrong(self):
        # 2 can stand above 0 or 1, 3 above 0 alone: whoever keeps 2 above 0 has three ladders.
        hall = built([[], [], [0, 1], [0]])
        self.assertEqual(hall.ladders(), [[0, 3], [1, 2]])
        self.assertIn(hall.free(), [[0, 1], [2, 3], [1, 3]])

    def test_through_a_thing_that_is_gone(self):
        both = Both(self)
        for some in ([], [0], [1], [], [3, 1], [2]):
            both.put(some)
        both.take(1)
        self.assertEqual(len(both.hall.ladders()), 2)
        self.check_hall(both.hall, both.plain)

    def test_told_by_their_lowest_things(self):
        hall = built([[], [], [], [2], [1], [0]])
        self.assertEqual(hall.ladders(), [[0, 5], [1, 4], [2, 3]])

    def test_small_halls_against_all_sets(self):
        for puts in every_small_hall(4):
            both = Both(self)
            for some in puts:
                both.put(list(some))
            sets = greatest_free_sets(both.plain.order())
            self.assertEqual(len(both.hall.ladders()), len(sets[0]))
            self.assertIn(both.hall.free(), sets)

    def test_small_halls_with_each_thing_taken_out(self):
        for puts in every_small_hall(4):
            for gone in range(4):
                both = Both(self)
                for some in puts:
                    both.put(list(some))
                both.take(gone)
                sets = greatest_free_sets(both.plain.order())
                self.assertEqual(len(both.hall.ladders()), len(sets[0]))
                self.assertIn(both.hall.free(), sets)


class Rows(Checks):
    def test_none_where_a_ladder_is_needed(self):
        hall = built([[]])
        self.assertEqual(hall.put([]), (1, []))
        self.assertEqual(hall.put([0])[1], [(2, 0)])
        self.assertEqual(hall.put([0]), (3, []))

    def test_of_two_pairs(self):
        hall = built([[], [], [0, 1]])
        first = hall.ladders()
        self.assertIn(first, [[[0, 2], [1]], [[0], [1, 2]]])
        low = 0 if [0, 2] in first else 1
        self.assertEqual(hall.put([low]), (3, [(3, low), (2, 1 - low)]))

    def test_of_many_pairs(self):
        # Each of seven upper things lies above two neighbours of eight, which leaves one alone;
        # a thing above one end alone moves all between that end and the one left alone.
        both = Both(self)
        for _ in range(8):
            both.put([])
        for low in range(7):
            both.put([low, low + 1])
        alone = [ladder[0] for ladder in both.hall.ladders() if len(ladder) == 1][0]
        end = 0 if alone >= 4 else 7
        row = both.put([end])
        self.assertEqual(len(row), abs(alone - end) + 1)
        self.assertEqual(row[0], (15, end))
        self.assertEqual(row[-1][1], alone)
        self.assertEqual(len(both.hall.ladders()), 8)

    def test_taken_out_alone_there_is_none(self):
        hall = built([[], [], [0]])
        self.assertEqual(hall.take(1), [])
        self.assertEqual(hall.ladders(), [[0, 2]])

    def test_taken_from_the_middle_of_a_ladder(self):
        hall = built([[], [0], [1]])
        self.assertEqual(hall.take(1), [])
        self.assertEqual(hall.ladders(), [[0, 2]])

    def test_taken_from_an_end_of_a_ladder(self):
        for gone, left in ((0, [1, 2]), (2, [0, 1])):
            hall = built([[], [0], [1]])
            self.assertEqual(hall.take(gone), [])
            self.assertEqual(hall.ladders(), [left])

    def test_one_fewer_behind_a_taking_out(self):
        both = Both(self)
        for some in ([], [0], [0]):
            both.put(some)
        self.assertEqual(both.hall.ladders(), [[0, 1], [2]])
        self.assertEqual(both.take(1), [(2, 0)])
        self.assertEqual(both.hall.ladders(), [[0, 2]])

    def test_one_fewer_whichever_of_three_is_taken_out(self):
        for gone in (2, 3, 4):
            both = Both(self)
            for some in ([], [], [0, 1], [0], [0, 1]):
                both.put(some)
            self.assertEqual(len(both.hall.ladders()), 3)
            both.take(gone)
            self.assertEqual(len(both.hall.ladders()), 2)


class Parted(Checks):
    def test_some_alone(self):
        hall = built([[], [0], [1], [], [3, 0]])
        self.assertEqual(hall.parted([2, 0])[0], [[0, 2]])
        self.assertIn(hall.parted([2, 0])[1], [[0], [2]])
        self.assertEqual(hall.parted([1, 4]), ([[1], [4]], [1, 4]))
        self.assertEqual(hall.parted([4, 1, 3])[0], [[1], [3, 4]])
        self.assertEqual(hall.parted([]), ([], []))

    def test_all_sets_of_a_hall(self):
        plain = PlainHall()
        puts = [[], [], [0], [0, 1], [2], [1], [4, 5], [3]]
        for some in puts:
            plain.put(some)
        order = plain.order()
        hall = built(puts)
        for many in range(len(puts) + 1):
            for some in combinations(range(len(puts)), many):
                self.check_parted(hall, list(some)[::-1], order)

    def test_no_wider_than_the_things_told(self):
        hall = built([[], [], [], [0, 1, 2]])
        ladders, free = hall.parted([3, 1])
        self.assertEqual(ladders, [[1, 3]])
        self.assertIn(free, [[1], [3]])
        self.assertTrue(is_free({1: set(), 3: {1}}, free))

    def test_leaves_the_hall_as_it_is(self):
        hall = built([[], [0], [0], [1, 2]])
        before = hall.ladders()
        hall.parted([2, 0])
        hall.parted([3, 2, 1])
        self.assertEqual(hall.ladders(), before)
