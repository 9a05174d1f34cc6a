"""What several tests share: things of all kinds, refusals looked at closely, all that a cellar tells."""

import unittest

from dimcellar.bottles import Bottle
from dimcellar.errors import CellarError, HereError, NoDeed, NoNumber

# More than any test does ahead of undoing all of them.
MOST_DEEDS = 1000
FIELDS = {
    "TooMany": ("many", "most"), "Crowded": ("first", "last", "many"),
    "Full": ("room", "shelf"), "Gone": ("number", "fate"), "Kept": ("number", "others")}


def deep(depth, make):
    thing = 0
    for _ in range(depth):
        thing = make(thing)
    return thing


def anything():
    """Things of every kind that may be handed in, new ones at each call."""
    return [
        None, True, False, -1, 0, 1, 2, 3, 4, 5, 6, 7, 9, 10, 37, 40, 41, 75, 150, 999, 1000, 1999,
        -(10 ** 39), 10 ** 40 - 1,
        "", " ", "a", "ann", "abcdefgh", "abcdefghi", "A", "0", "1", "75", "1999", "None", "\t", "\n", "~" * 2000,
        [], [0], [1], [0, 0], [None], ["a"], [[]], [1, 2, 3, 4],
        (), (0,), (1,), (0, 0), (0, 1), (1, 1), (True,), (None,), ("a",), ((),), (0, 1, 2), (1, 2, 3, 4),
        {}, {0: 0}, {"a": 1999}, {(0, 0): [0]},
        {0: (0, 1)}, {0: [0, 1]}, {True: (0, 1)}, {1: (False, 1)}, {40: (0, 1)}, {0: (1, 0)}, {0: (0, 0, 0)},
        ("ann", "bea"), ("ann", "ann"), [("ann", "bea")], [("ann", "ann")], [("ann",)], [["ann", "bea"]],
        ("ann", 1999, 2000), [("ann", 1999, 2000)], [(None, 1999, 1999)], [("ann", 2000, 1999)], [("", 1999, 2000)],
        Bottle("ann", 1999), [Bottle("ann", 1999)], (Bottle("ann", 1999),), {0: Bottle("ann", 1999)},
        deep(59, lambda thing: [thing]), deep(59, lambda thing: (thing,)), deep(59, lambda thing: {0: thing}),
        [0] * 9999, tuple(range(9999)), {number: number for number in range(4999)},
    ]


def anything_but(is_one):
    return [thing for thing in anything() if not is_one(thing)]


def is_number(thing, least, most):
    return type(thing) is int and least <= thing <= most


def is_month(thing):
    return is_number(thing, 0, 999)


def is_span(thing):
    return type(thing) is tuple and len(thing) == 2 and all(map(is_month, thing)) and thing[0] <= thing[1]


def is_year(thing):
    return is_number(thing, 1900, 2100)


def is_maker(thing):
    return type(thing) is str and 1 <= len(thing) <= 8 and thing.isascii() and thing.isalpha() and thing.islower()


def is_who(thing):
    return type(thing) is str and thing in ("", "a", "ann", "abcdefgh")


def fields(bottle):
    return bottle.maker, bottle.year, bottle.size


def told_fields(error):
    """The name and the fields of a refusal of a cellar."""
    name = type(error).__name__
    return name, {field: getattr(error, field) for field in FIELDS.get(name, ())}


def outcome(deed, *given, **named):
    """What a call tells, or the name and the fields of what refuses it."""
    try:
        return "told", deed(*given, **named)
    except (CellarError, HereError) as error:
        return told_fields(error)


def how_many_bottles(cellar):
    """At most one beyond the forty, so that a fault can't keep this going for ever."""
    many = 0
    while many < 41 and outcome(cellar.bottle, many)[0] == "told":
        many += 1
    return many


def told_now(cellar, rooms):
    """All that can be asked of a cellar, in plain values."""
    numbers = range(how_many_bottles(cellar))
    places = [(room, shelf) for room in range(len(rooms)) for shelf in range(rooms[room])]
    return {
        "texts": (str(cellar), repr(cellar)),
        "len": len(cellar),
        "counts": cellar.counts(),
        "rows": [cellar.row(room, shelf) for room, shelf in places],
        "bottles": [fields(cellar.bottle(number)) for number in numbers],
        "places": [cellar.place(number) for number in numbers],
        "fates": [cellar.became(number) for number in numbers],
        "twins": [outcome(cellar.twins, number) for number in numbers],
        "sets": [outcome(cellar.set_of, number) for number in numbers],
        "rooms": [cellar.rooms_with(cellar.bottle(number)) for number in numbers],
    }


def told_backwards(cellar, rooms):
    """All that a cellar tells, and again behind each undoing, to the beginning."""
    told = [told_now(cellar, rooms)]
    while outcome(cellar.undo)[0] == "told":
        told.append(told_now(cellar, rooms))
        if len(told) > MOST_DEEDS:
            raise AssertionError("there is no end to undoing")
    return told


class Looked(unittest.TestCase):
    """A test case that looks closely at refusals."""

    maxDiff = None

    def refused(self, error, deed, *given, **named):
        """The call is refused with just this class; told is what refused it."""
        shown = f"{deed} of {given!r} {named!r}"[:300]
        try:
            told = deed(*given, **named)
        except Exception as caught:
            self.assertIs(type(caught), error, f"{caught!r} of {shown}")
            return caught
        self.fail(f"{told!r} of {shown}, but {error.__name__} was due")

    def refused_with(self, error, wanted, deed, *given, **named):
        """The call is refused with just this class and these fields, of these kinds."""
        caught = self.refused(error, deed, *given, **named)
        self.assert_same({field: getattr(caught, field) for field in wanted}, wanted)

    def assert_same(self, told, wanted):
        """Equal, and of the same kinds: a truth isn't a number, a list isn't a tuple."""
        self.assertEqual(told, wanted)
        self.assertEqual(repr(told), repr(wanted))

    def assert_stays(self, build, rooms, refusals):
        """The refusals, one by one, change nothing and can't be undone.

        Each is the class and a call of the cellar.
        """
        wanted = told_backwards(build(), rooms)
        cellar = build()
        for error, call in refusals:
            self.refused(error, call, cellar)
            self.assertEqual(told_now(cellar, rooms), wanted[0])
        self.assertEqual(told_backwards(cellar, rooms), wanted)
        self.refused(NoDeed, cellar.undo)
        self.refused(NoNumber, cellar.bottle, 0)
