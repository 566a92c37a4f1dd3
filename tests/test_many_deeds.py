"""Halls of up to 24 things, by many deeds of both kinds, all checked behind each deed."""

from random import Random

from tests.plain import Both, Checks, everything


def some_of(chance, things, many):
    """At most so many of the things, in any order."""
    return chance.sample(things, min(len(things), chance.randint(0, many)))


class ManyDeeds(Checks):
    def many_deeds(self, seed, deeds, most, above, puts):
        """So many deeds; `most` things at most, each above so many; `puts` of ten deeds put."""
        chance = Random(seed)
        both = Both(self)
        for _ in range(deeds):
            things = both.plain.there
            if things and (len(things) == most or chance.randrange(10) >= puts):
                both.take(chance.choice(things))
            else:
                both.put(some_of(chance, things, above))
            order = self.check_hall(both.hall, both.plain)
            self.check_parted(both.hall, some_of(chance, both.plain.there, most), order)
        return both

    def test_few_things(self):
        for seed in range(12):
            self.many_deeds(seed, 40, 7, 2, 6)

    def test_things_above_few(self):
        for seed in range(4):
            both = self.many_deeds(seed, 60, 24, 1, 8)
            self.assertEqual(everything(both.hall), everything(both.hall))

    def test_things_above_some(self):
        for seed in range(4):
            self.many_deeds(seed, 60, 24, 2, 8)

    def test_things_above_many(self):
        for seed in range(4):
            self.many_deeds(seed, 60, 24, 6, 8)

    def test_full_halls(self):
        for seed in range(3):
            both = self.many_deeds(seed, 50, 24, 2, 10)
            self.assertGreaterEqual(len(both.plain.there), 23)

    def test_taken_out_to_the_last(self):
        for seed in range(4):
            chance = Random(seed)
            both = Both(self)
            for _ in range(24):
                both.put(some_of(chance, both.plain.there, 3))
            while both.plain.there:
                both.take(chance.choice(both.plain.there))
                self.check_hall(both.hall, both.plain)
            self.assertEqual(both.hall.ladders(), [])

    def test_two_rows_with_pairs_between(self):
        # Twelve beneath and twelve above: here the rows of pairs grow long.
        longest = 0
        for seed in range(8):
            chance = Random(seed)
            both = Both(self)
            for _ in range(12):
                both.put([])
            for _ in range(12):
                row = both.put(chance.sample(range(12), 2))
                longest = max(longest, len(row))
            for gone in chance.sample(range(24), 12):
                longest = max(longest, len(both.take(gone)))
            self.check_hall(both.hall, both.plain)
        self.assertGreater(longest, 3)
