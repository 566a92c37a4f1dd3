"""The hall, into which things are put above others and taken out again."""

from fewladders.errors import Full, NoThing, Twice
from fewladders.floors import all_floors, longest_ladder
from fewladders.stands import all_ladders, close_gap, fewest, free_set, make_fewer

MOST = 24


class Hall:
    """Things that are there, what each lies above, and as few ladders as can be."""

    def __init__(self):
        self._given = 0
        self._below = {}
        self._beneath = {}

    def put(self, some):
        """Put a new thing in above some; tell its number and the row of pairs."""
        self._check_some(some)
        if len(self._below) >= MOST:
            raise Full("as many things are there as can be")
        number = self._given
        self._below[number] = self._all_under(some)
        self._given += 1
        return number, make_fewer(self._below, self._beneath)

    def take(self, one):
        """Take a thing out; tell the row of pairs."""
        self._check(one)
        self._below = {
            up: [low for low in lows if low != one]
            for up, lows in self._below.items() if up != one
        }
        self._beneath = close_gap(self._beneath, one)
        return make_fewer(self._below, self._beneath)

    def things(self):
        """The things that are there, rising."""
        return sorted(self._below)

    def lies_above(self, one, other):
        """Whether one thing lies above another."""
        self._check(one)
        self._check(other)
        return other in self._below[one]

    def ladders(self):
        """As few ladders as can be, each from its lowest thing on."""
        return all_ladders(self._below, self._beneath)

    def free(self):
        """As many things that are apart, two by two, as there are ladders, rising."""
        return free_set(self._below, self._beneath)

    def floors(self):
        """The things of each floor, rising, from the lowest floor on."""
        return all_floors(self._below)

    def longest(self):
        """A ladder with one thing of each floor, its lowest thing first."""
        return longest_ladder(self._below)

    def parted(self, some):
        """As few ladders of some things alone, and as many of them that are apart."""
        self._check_some(some)
        return self._part(some)

    def with_thing(self, one):
        """A greatest free set that has the thing, rising; None where there is none."""
        self._check(one)
        return self._greatest(self._apart_from(one), [one])

    def without_thing(self, one):
        """A greatest free set that does not have the thing, rising; None where there is none."""
        self._check(one)
        return self._greatest([other for other in self.things() if other != one], [])

    def standing(self, one):
        """Whether the thing is in "every", in "some" or in "no" greatest free set."""
        if self.with_thing(one) is None:
            return "no"
        if self.without_thing(one) is None:
            return "every"
        return "some"

    def _check(self, one):
        # The kind is asked first: True and 1.0 would be found among the things as 1 is.
        # The message does not show what was handed in: very great numbers can't be shown.
        if type(one) != int or one not in self._below:
            raise NoThing("this is no thing that is there")

    def _check_some(self, some):
        if type(some) != list:
            raise NoThing("this is no list of things")
        for one in some:
            self._check(one)
        if len(set(some)) < len(some):
            raise Twice("a thing stands twice in the list")

    def _all_under(self, some):
        """Some things and all that they lie above, rising."""
        under = {low: True for one in some for low in self._below[one]}
        return [one for one in self.things() if one in some or one in under]

    def _apart_from(self, one):
        """All things that are apart from one."""
        beside = [other for other in self.things() if other not in self._below[one]]
        return [other for other in beside if other != one and one not in self._below[other]]

    def _part(self, some):
        """The ladders and a free set of some things alone."""
        below = {one: [low for low in self._below[one] if low in some] for one in some}
        beneath = fewest(below)
        return all_ladders(below, beneath), free_set(below, beneath)

    def _greatest(self, some, more):
        """More things with as many of some as can be, None where these are no greatest free set."""
        _, free = self._part(some)
        found = sorted(free + more)
        if len(found) < len(all_ladders(self._below, self._beneath)):
            return None
        return found
