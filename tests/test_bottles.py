"""Points 2 and 4: bottles."""

from dimcellar.bottles import Bottle
from dimcellar.errors import NoBottle, NoMaker, NoSize, NoYear
from tests.things import Looked, anything, anything_but, fields, is_number

LETTERS = "abcdefghijklmnopqrstuvwxyz"
OTHER_SIGNS = [chr(code) for code in range(32, 127) if chr(code) not in LETTERS + "%"] + ["\t", "\n"]
RISING = [
    ("zeta", 1900, 37), ("ann", 1950, 150), ("ann", 1999, 37), ("ann", 1999, 75), ("ann", 1999, 150),
    ("anna", 1999, 37), ("b", 1999, 37), ("b", 1999, 75), ("abc", 2000, 75), ("aa", 2100, 150)]


class Made(Looked):
    def test_fields(self):
        bottle = Bottle("latour", 1982, 150)
        self.assert_same(fields(bottle), ("latour", 1982, 150))

    def test_size_left_out(self):
        self.assert_same(fields(Bottle("latour", 1982)), ("latour", 1982, 75))

    def test_by_names(self):
        self.assert_same(fields(Bottle(size=37, year=1982, maker="latour")), ("latour", 1982, 37))
        self.assert_same(fields(Bottle(maker="latour", year=1982)), ("latour", 1982, 75))
        self.assert_same(fields(Bottle("latour", 1982, size=150)), ("latour", 1982, 150))

    def test_makers_of_all_lengths(self):
        for many in range(1, 9):
            self.assertEqual(Bottle("abcdefgh"[:many], 2000).maker, "abcdefgh"[:many])

    def test_makers_too_short_or_too_long(self):
        for maker in ("", "abcdefghi", "a" * 10, "a" * 2000):
            self.refused(NoMaker, Bottle, maker, 2000)

    def test_every_small_letter_at_every_place(self):
        for letter in LETTERS:
            for at in range(8):
                maker = "m" * at + letter + "m" * (7 - at)
                self.assertEqual(Bottle(maker, 2000).maker, maker)

    def test_another_sign_at_any_place(self):
        for sign in OTHER_SIGNS:
            for many in (1, 2, 5, 8):
                for at in range(many):
                    self.refused(NoMaker, Bottle, "m" * at + sign + "m" * (many - at - 1), 2000)

    def test_makers_of_other_kinds(self):
        for thing in anything_but(lambda thing: type(thing) is str):
            self.refused(NoMaker, Bottle, thing, 2000)
        self.refused(NoMaker, Bottle, ["a", "b"], 2000)
        self.refused(NoMaker, Bottle, ("a",), 2000)

    def test_years_at_their_bounds(self):
        for year in (1900, 1901, 2000, 2099, 2100):
            self.assert_same(Bottle("a", year).year, year)
        for year in (1899, 2101, 0, 1, -1900, -2000, 10 ** 39, -(10 ** 39), 19000):
            self.refused(NoYear, Bottle, "a", year)

    def test_years_of_other_kinds(self):
        for thing in anything_but(lambda thing: is_number(thing, 1900, 2100)):
            self.refused(NoYear, Bottle, "a", thing)

    def test_sizes(self):
        for size in (37, 75, 150):
            self.assert_same(Bottle("a", 2000, size).size, size)
        for size in (36, 38, 74, 76, 149, 151, 0, 1, -75, -37, 300, 10 ** 39):
            self.refused(NoSize, Bottle, "a", 2000, size)

    def test_sizes_of_other_kinds(self):
        for thing in anything_but(lambda thing: type(thing) is int and thing in (37, 75, 150)):
            self.refused(NoSize, Bottle, "a", 2000, thing)

    def test_the_first_of_several_wrong(self):
        for thing in anything_but(lambda thing: type(thing) is str):
            self.refused(NoMaker, Bottle, thing, 1899, 76)
            self.refused(NoMaker, Bottle, "A", thing, 75)
            self.refused(NoMaker, Bottle, "A", 2000, thing)
        for thing in anything_but(lambda thing: is_number(thing, 1900, 2100)):
            self.refused(NoYear, Bottle, "a", thing, 76)
            self.refused(NoYear, Bottle, "a", thing, None)

    def test_the_first_of_several_wrong_by_names(self):
        self.refused(NoMaker, Bottle, size=0, year=0, maker="")
        self.refused(NoYear, Bottle, size=0, year=0, maker="a")
        self.refused(NoSize, Bottle, size=0, year=2000, maker="a")


class Equal(Looked):
    def test_equal_just_where_all_three_are(self):
        for one in RISING:
            for other in RISING:
                self.assertIs(Bottle(*one) == Bottle(*other), one == other)
                self.assertIs(Bottle(*one) != Bottle(*other), one != other)

    def test_unlike_in_one_thing_alone(self):
        bottle = Bottle("ann", 1999, 75)
        for other in (Bottle("anne", 1999, 75), Bottle("ann", 1998, 75), Bottle("ann", 1999, 37)):
            self.assertFalse(bottle == other)
            self.assertTrue(bottle != other)
        self.assertTrue(bottle == bottle)
        self.assertTrue(bottle == Bottle("ann", 1999))
        self.assertFalse(bottle != Bottle("ann", 1999))

    def test_things_of_other_kinds_both_ways_about(self):
        bottle = Bottle("ann", 1999)
        others = anything_but(lambda thing: isinstance(thing, Bottle))
        others += [("ann", 1999, 75), (1999, "ann", 75), ["ann", 1999, 75], "ann 1999", "Bottle('ann', 1999, 75)",
                   {"maker": "ann", "year": 1999, "size": 75}]
        for other in others:
            self.assertIs(bottle == other, False)
            self.assertIs(other == bottle, False)
            self.assertIs(bottle != other, True)
            self.assertIs(other != bottle, True)

    def test_in_lists(self):
        self.assertTrue(Bottle("ann", 1999) in [None, 0, Bottle("ann", 1999)])
        self.assertFalse(Bottle("ann", 1999) in [None, 0, Bottle("ann", 1998)])


class Texts(Looked):
    def test_as_texts(self):
        self.assertEqual(str(Bottle("ann", 1999)), "ann 1999")
        self.assertEqual(str(Bottle("ann", 1999, 75)), "ann 1999")
        self.assertEqual(str(Bottle("ann", 1999, 37)), "ann 1999 37")
        self.assertEqual(str(Bottle("abcdefgh", 2100, 150)), "abcdefgh 2100 150")

    def test_shown(self):
        self.assertEqual(repr(Bottle("ann", 1999)), "Bottle('ann', 1999, 75)")
        self.assertEqual(repr(Bottle("z", 1900, 37)), "Bottle('z', 1900, 37)")
        self.assertEqual(repr(Bottle("abcdefgh", 2100, 150)), "Bottle('abcdefgh', 2100, 150)")

    def test_told_twice(self):
        bottle = Bottle("ann", 1999, 37)
        for _ in range(2):
            self.assertEqual(str(bottle), "ann 1999 37")
            self.assertEqual(repr(bottle), "Bottle('ann', 1999, 37)")


class Elder(Looked):
    def test_by_year_then_maker_then_size(self):
        for at, one in enumerate(RISING):
            for other_at, other in enumerate(RISING):
                self.assertIs(Bottle(*one).is_elder(Bottle(*other)), at < other_at, (one, other))

    def test_not_elder_than_itself_or_an_equal_one(self):
        bottle = Bottle("ann", 1999)
        self.assertIs(bottle.is_elder(bottle), False)
        self.assertIs(bottle.is_elder(Bottle("ann", 1999)), False)

    def test_by_name(self):
        self.assertIs(Bottle("ann", 1998).is_elder(other=Bottle("ann", 1999)), True)

    def test_of_anything_else(self):
        bottle = Bottle("ann", 1999)
        for thing in anything():
            if not isinstance(thing, Bottle):
                self.refused(NoBottle, bottle.is_elder, thing)
        self.refused(NoBottle, bottle.is_elder, ("ann", 1999, 75))
        self.refused(NoBottle, bottle.is_elder, (1999, "ann", 75))
        self.refused(NoBottle, bottle.is_elder, "ann 1999")
