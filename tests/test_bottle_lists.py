"""Points 2 and 5: lists of bottles."""

import itertools

from dimcellar.bottles import Bottle, by_age, unlike
from dimcellar.errors import NoBottles
from tests.things import Looked, anything, fields

# In the order of their tuples (year, maker, size).
AGED = [
    ("zeta", 1900, 37), ("ann", 1950, 150), ("ann", 1999, 37), ("ann", 1999, 75), ("anna", 1999, 37),
    ("b", 1999, 37), ("abc", 2000, 75)]


class ListsOfBottles(Looked):
    def assert_very(self, told, wanted):
        """The very bottles, in this order, in a new list."""
        self.assertIs(type(told), list)
        self.assertEqual([id(bottle) for bottle in told], [id(bottle) for bottle in wanted])

    def test_by_age_of_all_orders(self):
        bottles = [Bottle(*told) for told in AGED]
        for given in itertools.permutations(bottles):
            self.assert_very(by_age(list(given)), bottles)

    def test_by_age_leaves_equal_ones_in_their_order(self):
        first, second, third = Bottle("ann", 1999), Bottle("ann", 1999), Bottle("ann", 1999)
        elder, younger = Bottle("zoe", 1998), Bottle("abe", 2000)
        self.assert_very(
            by_age([younger, second, first, elder, third]), [elder, second, first, third, younger])
        self.assert_very(by_age([third, elder, first, second]), [elder, third, first, second])

    def test_unlike_has_the_first_of_its_equals(self):
        first, second, third = Bottle("ann", 1999), Bottle("ann", 1999), Bottle("ann", 1999)
        other, same = Bottle("ann", 1999, 37), Bottle("ann", 1999, 37)
        self.assert_very(unlike([second, other, first, same, third]), [second, other])
        self.assert_very(unlike([same, third, other, second]), [same, third])
        self.assert_very(unlike([first, first]), [first])

    def test_unlike_keeps_the_order_handed_in(self):
        bottles = [Bottle(*told) for told in AGED]
        for given in (bottles, bottles[::-1], bottles[3:] + bottles[:3]):
            self.assert_very(unlike(list(given)), given)
            self.assert_very(unlike(given + [Bottle(*told) for told in AGED]), given)

    def test_unlike_where_one_field_differs(self):
        bottles = [Bottle("ann", 1999), Bottle("anne", 1999), Bottle("ann", 1998), Bottle("ann", 1999, 150)]
        self.assert_very(unlike(bottles), bottles)

    def test_of_an_empty_list(self):
        self.assert_same(by_age([]), [])
        self.assert_same(unlike([]), [])

    def test_of_one(self):
        bottle = Bottle("ann", 1999)
        self.assert_very(by_age([bottle]), [bottle])
        self.assert_very(unlike([bottle]), [bottle])

    def test_by_names(self):
        elder, younger = Bottle("ann", 1998), Bottle("ann", 1999)
        self.assert_very(by_age(bottles=[younger, elder]), [elder, younger])
        self.assert_very(unlike(bottles=[younger, elder, younger]), [younger, elder])

    def test_told_lists_are_new_and_what_was_handed_in_stays(self):
        bottles = [Bottle("ann", 1999), Bottle("ann", 1998), Bottle("ann", 1999)]
        for ask in (by_age, unlike):
            given = list(bottles)
            told = ask(given)
            self.assertIsNot(told, given)
            wanted = list(told)
            told.append(Bottle("abe", 1900))
            told.reverse()
            self.assert_very(given, bottles)
            again = ask(given)
            self.assert_very(again, wanted)
            given.clear()
            self.assert_very(again, wanted)
        self.assertEqual([fields(bottle) for bottle in bottles],
                         [("ann", 1999, 75), ("ann", 1998, 75), ("ann", 1999, 75)])

    def test_new_even_where_nothing_is_moved(self):
        for bottles in ([], [Bottle("ann", 1998)], [Bottle("ann", 1998), Bottle("ann", 1999)]):
            for ask in (by_age, unlike):
                self.assertIsNot(ask(bottles), bottles)
                self.assertIsNot(ask(bottles), ask(bottles))

    def test_a_told_list_may_be_handed_in_again(self):
        bottles = [Bottle(*told) for told in AGED]
        self.assert_very(by_age(unlike(bottles[::-1] + bottles)), by_age(bottles[::-1]))

    def test_things_that_are_no_list_of_bottles(self):
        lists = ([], [Bottle("ann", 1999)])
        for ask in (by_age, unlike):
            for thing in anything():
                if thing not in lists:
                    self.refused(NoBottles, ask, thing)
            self.refused(NoBottles, ask, ())
            self.refused(NoBottles, ask, (Bottle("ann", 1999), Bottle("ann", 1998)))
            self.refused(NoBottles, ask, "ann 1999")

    def test_one_that_is_no_bottle_at_any_place(self):
        bottles = [Bottle("ann", 1999), Bottle("ann", 1998), Bottle("bea", 1999)]
        for thing in anything() + [("ann", 1999, 75), "ann 1999"]:
            if not isinstance(thing, Bottle):
                for at in range(4):
                    given = bottles[:at] + [thing] + bottles[at:]
                    kept = list(given)
                    for ask in (by_age, unlike):
                        self.refused(NoBottles, ask, given)
                        self.assert_very(given, kept)

    def test_long_lists(self):
        many = [Bottle("ann", 2100 - number % 200) for number in range(9000)]
        self.assertEqual([bottle.year for bottle in unlike(many)], [2100 - number for number in range(200)])
        self.assertEqual([bottle.year for bottle in by_age(many)], sorted([bottle.year for bottle in many]))
