"""Points 2 and 11: what is brought up for an evening, and why."""

import copy
import random

from dimcellar.bottles import Bottle
from dimcellar.cellars import Cellar
from dimcellar.errors import NoWishes
from dimcellar.evenings import evening
from tests import plain_evening
from tests.cellars_of_sorts import ROOMS, of_sorts
from tests.things import Looked, anything, anything_but, is_maker, is_year, told_backwards, told_now

ALL = (None, 1900, 2100)


def cellar_of(*bottles):
    """Each bottle is told as (maker, year) or (maker, year, size); laid by turns on eight shelves."""
    cellar = Cellar((4, 4), 9)
    for at, told in enumerate(bottles):
        cellar.lay(Bottle(*told), at % 2, at // 2 % 4)
    return cellar


def is_wish(thing):
    return (
        type(thing) is tuple and len(thing) == 3 and (thing[0] is None or is_maker(thing[0]))
        and is_year(thing[1]) and is_year(thing[2]) and thing[1] <= thing[2])


def are_wishes(thing):
    return type(thing) is list and len(thing) <= 6 and all(is_wish(part) for part in thing)


class Chosen(Looked):
    def assert_evening(self, wanted, cellar, wishes, *twins):
        self.assert_same(evening(cellar, wishes, *twins), wanted)

    def test_without_a_wish(self):
        for cellar in (Cellar((1,)), of_sorts()):
            for twins in ((), (False,), (True,)):
                self.assert_evening([], cellar, [], *twins)

    def test_an_empty_cellar(self):
        for many in range(7):
            self.assert_evening([(None, "none")] * many, Cellar((1,)), [ALL] * many)

    def test_the_only_one(self):
        cellar = cellar_of(("ann", 1999), ("bea", 1980), ("cleo", 1990))
        self.assert_evening([(0, "only")], cellar, [("ann", 1900, 2100)])
        self.assert_evening([(2, "only")], cellar, [(None, 1985, 1995)])
        self.assert_evening([(1, "only")], cellar, [("bea", 1980, 1980)])
        self.assert_evening([(0, "only")], cellar_of(("ann", 1999)), [ALL])

    def test_none(self):
        cellar = cellar_of(("ann", 1999), ("bea", 1980))
        for wish in (("ann", 1900, 1998), ("ann", 2000, 2100), ("dan", 1900, 2100), ("an", 1900, 2100),
                     ("anna", 1900, 2100), (None, 1981, 1998), ("bea", 1999, 1999)):
            for twins in (False, True):
                self.assert_evening([(None, "none")], cellar, [wish], twins)

    def test_years_at_their_bounds(self):
        cellar = cellar_of(("ann", 1900), ("ann", 1999), ("ann", 2100))
        for wish, wanted in (
                ((None, 1900, 1900), (0, "only")), ((None, 1900, 1998), (0, "only")), ((None, 1901, 1999), (1, "only")),
                ((None, 1999, 2099), (1, "only")), ((None, 2000, 2100), (2, "only")), ((None, 2100, 2100), (2, "only")),
                ((None, 2000, 2099), (None, "none")), ((None, 1999, 2100), (1, "eldest"))):
            self.assert_evening([wanted], cellar, [wish])

    def test_the_eldest_by_year_maker_size_and_number(self):
        for bottles, wanted in (
                ((("ann", 1999), ("bea", 1998)), (1, "eldest")),
                ((("bea", 1999, 37), ("ann", 1999, 150)), (1, "eldest")),
                ((("ann", 1999, 75), ("ann", 1999, 37)), (1, "eldest")),
                ((("ann", 1999, 150), ("ann", 1999, 75), ("ann", 2000, 37)), (1, "eldest")),
                ((("ann", 1999), ("ann", 1999)), (0, "first")),
                ((("zoe", 1990), ("ann", 1999), ("ann", 1999)), (0, "eldest")),
                ((("ann", 1999), ("zoe", 1990), ("ann", 1999), ("zoe", 1990)), (1, "first")),
                ((("anna", 1990), ("ann", 1990)), (1, "eldest"))):
            for twins in (False, True):
                self.assert_evening([wanted], cellar_of(*bottles), [ALL], twins)

    def test_equal_ones_are_chosen_by_their_numbers_and_not_by_where_they_lie(self):
        cellar = cellar_of(*[("ann", 1999)] * 12)
        cellar.move(0, 1, 3)
        cellar.move(2, 1, 3)
        for number in (1, 3):
            cellar.drink(number, 0)
        self.assert_evening([(0, "first"), (2, "first"), (4, "first")], cellar, [ALL] * 3, True)
        cellar.drink(0, 0)
        self.assert_evening([(2, "first")], cellar, [ALL])

    def test_first_only_where_another_one_that_could_be_is_equal(self):
        cellar = cellar_of(("ann", 1999), ("ann", 1999), ("ann", 1999, 37), ("bea", 1999))
        self.assert_evening([(2, "eldest")], cellar, [("ann", 1999, 1999)])
        self.assert_evening([(2, "eldest"), (0, "first")], cellar, [("ann", 1999, 1999)] * 2)
        self.assert_evening([(2, "eldest"), (0, "first"), (1, "eldest"), (3, "only")], cellar, [ALL] * 4, True)
        self.assert_evening([(2, "eldest"), (0, "first"), (3, "only")], cellar, [ALL] * 3, False)

    def test_an_equal_one_that_is_gone_or_in_a_set_makes_no_first(self):
        cellar = cellar_of(("ann", 1999), ("ann", 1999), ("ann", 1999), ("bea", 2000), ("cleo", 2000))
        cellar.drink(1, 5)
        cellar.bind((2, 4))
        self.assert_evening([(0, "eldest")], cellar, [ALL])
        self.assert_evening([(0, "only")], cellar, [("ann", 1900, 2100)])

    def test_the_same_wish_twice(self):
        cellar = cellar_of(("ann", 1999), ("ann", 1999), ("ann", 2000))
        wish = ("ann", 1900, 2100)
        self.assert_evening([(0, "first"), (2, "only"), (None, "none")], cellar, [wish] * 3)
        self.assert_evening([(0, "first"), (2, "only"), (None, "none")], cellar, [wish] * 3, False)
        self.assert_evening([(0, "first"), (1, "eldest"), (2, "only"), (None, "none")], cellar, [wish] * 4, True)

    def test_twins_by_place_by_name_and_left_out(self):
        cellar = cellar_of(("ann", 1999), ("ann", 1999))
        let, left = [(0, "first"), (1, "only")], [(0, "first"), (None, "none")]
        self.assert_same(evening(cellar, [ALL, ALL]), left)
        self.assert_same(evening(cellar, [ALL, ALL], False), left)
        self.assert_same(evening(cellar, [ALL, ALL], twins=False), left)
        self.assert_same(evening(cellar, [ALL, ALL], True), let)
        self.assert_same(evening(cellar, [ALL, ALL], twins=True), let)
        self.assert_same(evening(twins=True, wishes=[ALL, ALL], cellar=cellar), let)
        self.assert_same(evening(wishes=[ALL, ALL], cellar=cellar), left)

    def test_unlike_sizes_are_no_twins(self):
        cellar = cellar_of(("ann", 1999, 37), ("ann", 1999, 75), ("ann", 1999, 150), ("ann", 1999, 75))
        self.assert_evening(
            [(0, "eldest"), (1, "first"), (2, "only"), (None, "none")], cellar, [ALL] * 4)

    def test_a_twin_chosen_for_another_wish(self):
        cellar = cellar_of(("ann", 1999), ("bea", 1999), ("ann", 1999))
        wishes = [("ann", 1999, 1999), (None, 1990, 2000), (None, 1990, 2000)]
        self.assert_evening([(0, "first"), (1, "only"), (None, "none")], cellar, wishes)
        self.assert_evening([(0, "first"), (2, "eldest"), (1, "only")], cellar, wishes, True)

    def test_in_the_order_of_the_wishes(self):
        cellar = cellar_of(("ann", 1990), ("ann", 1995), ("bea", 1992))
        narrow, wide = ("ann", 1990, 1990), ("ann", 1900, 2100)
        self.assert_evening([(0, "only"), (1, "only")], cellar, [narrow, wide])
        self.assert_evening([(0, "eldest"), (None, "none")], cellar, [wide, narrow])
        self.assert_evening([(0, "eldest"), (2, "eldest"), (1, "only")], cellar, [ALL, ALL, ALL])
        self.assert_evening(
            [(2, "only"), (None, "none"), (0, "eldest")], cellar, [("bea", 1900, 2100)] * 2 + [ALL])

    def test_gone_ones(self):
        cellar = cellar_of(("ann", 1990), ("ann", 1991), ("ann", 1992), ("ann", 1993))
        cellar.drink(0, 1)
        cellar.give(1, 2)
        cellar.smash(2, 3)
        self.assert_evening([(3, "only"), (None, "none")], cellar, [ALL, ALL])
        cellar.undo()
        self.assert_evening([(2, "eldest"), (3, "only")], cellar, [ALL, ALL])
        cellar.undo()
        cellar.undo()
        self.assert_evening([(0, "eldest"), (1, "eldest")], cellar, [ALL, ALL])

    def test_ones_in_a_set(self):
        cellar = cellar_of(("ann", 1990), ("ann", 1991), ("ann", 1992), ("ann", 1993))
        cellar.bind((0, 2))
        self.assert_evening([(1, "eldest"), (3, "only"), (None, "none")], cellar, [ALL] * 3)
        cellar.smash(0, 4)
        self.assert_same(cellar.set_of(2), (2,))
        self.assert_evening([(1, "eldest"), (3, "only"), (None, "none")], cellar, [ALL] * 3, True)
        cellar.loosen(2)
        self.assert_evening([(1, "eldest"), (2, "eldest"), (3, "only")], cellar, [ALL] * 3)
        cellar.bind((1, 2, 3))
        self.assert_evening([(None, "none")] * 2, cellar, [ALL] * 2)

    def test_a_cellar_of_sorts(self):
        self.assert_evening([(9, "eldest"), (2, "only"), (None, "none")], of_sorts(), [ALL] * 3)
        self.assert_evening([(None, "none"), (2, "only")], of_sorts(), [("ann", 1900, 2100), ("bea", 1900, 2100)])

    def test_rows_of_wishes_held_against_a_plain_evening(self):
        chance = random.Random(51)
        seen = {"only": 0, "first": 0, "eldest": 0, "none": 0}
        for _ in range(150):
            cellar, many = self.some_cellar(chance)
            for _ in range(6):
                wishes = [some_wish(chance) for _ in range(chance.randrange(7))]
                for twins in (False, True):
                    wanted = plain_evening.evening(cellar, many, wishes, twins)
                    self.assert_evening(wanted, cellar, wishes, twins)
                    for _, why in wanted:
                        seen[why] += 1
        self.assertGreater(min(seen.values()), 100)

    def some_cellar(self, chance):
        many = chance.choice((1, 3, 8, 20, 40))
        cellar = cellar_of(*[
            (chance.choice(("ann", "bea", "b")), chance.randrange(1999, 2003), chance.choice((37, 75)))
            for _ in range(many)])
        numbers = chance.sample(range(many), many)
        if many > 6:
            cellar.bind(tuple(sorted(numbers[:3])))
            cellar.bind(tuple(sorted(numbers[3:5])))
            cellar.smash(numbers[3], 7)
        for number in numbers[5:5 + many // 3]:
            chance.choice((cellar.drink, cellar.give, cellar.smash))(number, 9)
        return cellar, many


def some_wish(chance):
    least = chance.randrange(1998, 2004)
    return chance.choice((None, None, "ann", "bea", "b", "dan")), least, least + chance.randrange(4)


class HandedIn(Looked):
    def test_the_cellar_and_the_wishes_stay(self):
        wanted = told_backwards(of_sorts(), ROOMS)
        cellar = of_sorts()
        for wishes in ([], [ALL], [ALL] * 6, [("ann", 1999, 1999), ("bea", 1900, 2100), ALL]):
            kept = copy.deepcopy(wishes)
            for twins in (False, True):
                evening(cellar, wishes, twins)
                self.assert_same(wishes, kept)
                self.assertEqual(told_now(cellar, ROOMS), wanted[0])
        self.refused(NoWishes, evening, cellar, [ALL] * 7)
        self.assertEqual(told_backwards(cellar, ROOMS), wanted)

    def test_the_told_list_is_new(self):
        cellar = of_sorts()
        for wishes in ([], [ALL], [ALL, ALL]):
            told = evening(cellar, wishes)
            wanted = list(told)
            self.assertIsNot(told, wishes)
            told.append("none")
            told.reverse()
            self.assert_same(evening(cellar, wishes), wanted)
            wishes.append(ALL)
            self.assertEqual(len(told), len(wanted) + 1)

    def test_nobody_is_chosen_for_good(self):
        cellar = cellar_of(("ann", 1999))
        for _ in range(3):
            self.assert_same(evening(cellar, [ALL, ALL]), [(0, "only"), (None, "none")])


class Refused(Looked):
    def assert_refused(self, wishes):
        for cellar in (Cellar((1,)), of_sorts()):
            for twins in ((), (False,), (True,)):
                self.refused(NoWishes, evening, cellar, wishes, *twins)

    def test_things_that_are_no_wishes(self):
        for thing in anything_but(are_wishes):
            self.assert_refused(thing)
        for thing in ((ALL,), (), {}, {0: ALL}, ALL, [[None, 1900, 2100]], [None], None, ""):
            self.assert_refused(thing)

    def test_none_to_six_wishes(self):
        for many in range(7):
            self.assertEqual(len(evening(of_sorts(), [ALL] * many)), many)
        for many in (7, 8, 40, 9999):
            self.assert_refused([ALL] * many)

    def test_one_that_is_no_wish_at_any_place(self):
        for thing in anything_but(is_wish):
            for at in range(3):
                wishes = [ALL, ("ann", 1999, 2000)]
                wishes.insert(at, thing)
                self.assert_refused(wishes)

    def test_parts_of_a_wish_of_other_kinds(self):
        for thing in anything():
            if thing is not None and not is_maker(thing):
                self.assert_refused([(thing, 1900, 2100)])
            if not is_year(thing):
                self.assert_refused([("ann", thing, 2100)])
                self.assert_refused([("ann", 1900, thing)])
                self.assert_refused([(None, thing, thing)])

    def test_makers_that_are_none(self):
        for maker in ("", "Ann", "anna1", "a b", " ann", "ann ", "ann\n", "abcdefghi", "a-b", "~", "None"):
            self.assert_refused([(maker, 1900, 2100)])
            self.assert_refused([ALL, (maker, 1900, 2100)])
        self.assert_same(evening(Cellar((1,)), [("a", 1900, 2100), ("abcdefgh", 1900, 2100), ("zzzzzzzz", 1900, 1900)]),
                         [(None, "none")] * 3)

    def test_years_that_are_none(self):
        for least, most in ((1899, 2000), (1900, 2101), (2101, 2101), (1899, 1899), (-1999, 1999), (0, 9999),
                            (2000, 1999), (2100, 1900), (True, 2000), (1900, True), ("1900", 2000), (None, None)):
            self.assert_refused([("ann", least, most)])
            self.assert_refused([(None, least, most)])
        self.assert_same(evening(Cellar((1,)), [(None, 1900, 1900), (None, 2100, 2100)]), [(None, "none")] * 2)

    def test_too_few_or_too_many_parts(self):
        for wish in ((), ("ann",), ("ann", 1900), (1900, 2100), ("ann", 1900, 2100, 75), (None, 1900, 2100, None),
                     (("ann", 1900, 2100),), (1900, 2100, "ann")):
            self.assert_refused([wish])

    def test_by_names(self):
        self.refused(NoWishes, evening, twins=True, wishes=None, cellar=of_sorts())
