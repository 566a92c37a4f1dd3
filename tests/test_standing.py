"""[7]: who stands in every, in some, in no greatest free set."""

from tests.plain import Both, Checks, built, greatest_free_sets
from tests.test_ladders import every_small_hall


class Standing(Checks):
    def test_in_every_some_and_none(self):
        hall = built([[], [0], [0], [], [3]])
        self.assertEqual([hall.standing(one) for one in range(5)],
                         ["no", "every", "every", "some", "some"])
        self.assertIsNone(hall.with_thing(0))
        self.assertIsNone(hall.without_thing(1))
        self.assertEqual(hall.with_thing(3), [1, 2, 3])
        self.assertEqual(hall.without_thing(3), [1, 2, 4])
        self.assertEqual(hall.with_thing(4), [1, 2, 4])
        self.assertIn(hall.without_thing(0), [[1, 2, 3], [1, 2, 4]])
        self.assertIn(hall.with_thing(1), [[1, 2, 3], [1, 2, 4]])

    def test_one_ladder(self):
        hall = built([[], [0]])
        self.assertEqual(hall.with_thing(0), [0])
        self.assertEqual(hall.without_thing(0), [1])
        self.assertEqual(hall.standing(0), "some")

    def test_small_halls_against_all_sets(self):
        for puts in every_small_hall(4):
            both = Both(self)
            for some in puts:
                both.put(list(some))
            self.check_against_all(both)

    def test_greater_halls_against_all_sets(self):
        puts = [[], [], [0], [0, 1], [2], [1], [4, 5], [3], [7, 5], []]
        both = Both(self)
        for some in puts:
            both.put(some)
            self.check_against_all(both)
        for gone in (3, 0, 9, 6, 5):
            both.take(gone)
            self.check_against_all(both)

    def check_against_all(self, both):
        sets = greatest_free_sets(both.plain.order())
        for one in both.plain.there:
            has = [some for some in sets if one in some]
            lacks = [some for some in sets if one not in some]
            self.assertIn(both.hall.with_thing(one), has or [None])
            self.assertIn(both.hall.without_thing(one), lacks or [None])
            word = ("some" if lacks else "every") if has else "no"
            self.assertEqual(both.hall.standing(one), word)
