"""Points 2 and 13: what is no lost list, no lost numbers and no hints, and which of these goes first."""

import copy

from dimcellar.errors import NoHints, NoList, NoLost, NoWay
from dimcellar.lost import how_many, settled
from tests.plain_lost import KINDS
from tests.things import Looked, anything, anything_but, is_number

KNOWN = (None, 5, None, None)
LOST = (2, 11, 30)
NUMBERS = (2, 5, 11, 30)
HINTS = [("at", 11, 0), ("not", 2, 3), ("ahead", 5, 30), ("beside", 30, 2)]
# No number, whatever it stands in.
NO_NUMBERS = anything_but(lambda thing: is_number(thing, 0, 39)) + [-1, 40, "5", (5,), [5]]


def is_list(thing):
    if type(thing) is not tuple or not 1 <= len(thing) <= 6:
        return False
    numbers = [part for part in thing if part is not None]
    return all(is_number(part, 0, 39) for part in numbers) and len(set(numbers)) == len(numbers)


def are_lost(thing):
    """Of the list above."""
    if type(thing) is not tuple or len(thing) != 3 or not all(is_number(part, 0, 39) for part in thing):
        return False
    return 5 not in thing and list(thing) == sorted(set(thing))


def is_hint(thing):
    if type(thing) is not tuple or len(thing) != 3 or type(thing[0]) is not str or thing[0] not in KINDS:
        return False
    number, other = thing[1:]
    if type(number) is not int or type(other) is not int or number not in NUMBERS:
        return False
    return 0 <= other < 4 if thing[0] in ("at", "not") else other in NUMBERS and other != number


def with_at(things, at, thing):
    return things[:at] + type(things)([thing]) + things[at + 1:]


class Refused(Looked):
    def assert_refused(self, error, known, lost, hints):
        """Of both functions alike; what is handed in stays."""
        kept = copy.deepcopy((known, lost, hints))
        for ask in (how_many, settled):
            self.refused(error, ask, known, lost, hints)
            self.refused(error, ask, hints=hints, lost=lost, known=known)
        self.assertEqual(repr((known, lost, hints)), repr(kept))


class NoLists(Refused):
    def test_things_of_any_kind(self):
        for thing in anything_but(is_list):
            self.assert_refused(NoList, thing, LOST, HINTS)
            self.assert_refused(NoList, thing, (), [])
        for thing in (list(KNOWN), "5", {None: 5}, [None], None, 5, ([None, 5],)):
            self.assert_refused(NoList, thing, LOST, HINTS)

    def test_no_place_and_seven_places(self):
        self.assert_refused(NoList, (), (), [])
        self.assert_refused(NoList, (0, 1, 2, 3, 4, 5, 6), (), [])
        self.assert_refused(NoList, (None,) * 7, (0, 1, 2, 3, 4, 5, 6), [])
        self.assert_refused(NoList, (None,) * 7, (0, 1, 2, 3, 4, 5), [])
        self.assert_refused(NoList, KNOWN + (1, 3, 4), LOST, HINTS)
        for many in range(1, 7):
            self.assertEqual(how_many(tuple(range(many)), (), []), 1)
            self.assertEqual(settled((None,) + tuple(range(1, many)), (0,), []), tuple(range(many)))

    def test_things_that_are_no_number_at_any_place(self):
        for thing in NO_NUMBERS:
            if thing is not None:
                for at in range(4):
                    self.assert_refused(NoList, with_at(KNOWN, at, thing), LOST, [])
                    self.assert_refused(NoList, with_at((6, 7, 8, 9), at, thing), (), [])

    def test_numbers_at_their_bounds_and_beyond(self):
        for at in range(4):
            for number in (0, 39):
                self.assertEqual(settled(with_at((6, 7, 8, 9), at, number), (), [])[at], number)
            for number in (-1, 40, 41, 10 ** 39, -(10 ** 39), False, True):
                self.assert_refused(NoList, with_at((6, 7, 8, 9), at, number), (), [])

    def test_a_number_twice(self):
        for known in ((5, 5), (5, 6, 5), (None, 5, 5), (5, None, 5), (0, 0), (39, 1, 2, 3, 4, 39), (5,) * 6):
            for lost in ((), (1,), (1, 2)):
                self.assert_refused(NoList, known, lost, [])
        self.assertEqual(how_many((None, None, 5), (1, 2), []), 2)


class NoLosts(Refused):
    def test_things_of_any_kind(self):
        for thing in anything_but(are_lost):
            self.assert_refused(NoLost, KNOWN, thing, HINTS)
        for thing in anything_but(lambda thing: thing == ()):
            self.assert_refused(NoLost, (5, 6), thing, [])
        for thing in (list(LOST), {2: 11}, {2, 11, 30}, "2", ((2, 11, 30),), None):
            self.assert_refused(NoLost, KNOWN, thing, HINTS)
        for thing in ([], "", None, {}, 0, (None,)):
            self.assert_refused(NoLost, (5, 6), thing, [])

    def test_one_too_many_or_too_few(self):
        for many in range(7):
            known = (None,) * many + tuple(range(20, 26 - many))
            lost = tuple(range(many))
            self.assertGreater(how_many(known, lost, []), 0)
            for other in range(9):
                if other != many:
                    self.assert_refused(NoLost, known, tuple(range(other)), [])

    def test_things_that_are_no_number_at_any_place(self):
        for thing in NO_NUMBERS:
            for at in range(3):
                self.assert_refused(NoLost, KNOWN, with_at(LOST, at, thing), HINTS)
                self.assert_refused(NoLost, KNOWN, with_at(LOST, at, thing), [])
            self.assert_refused(NoLost, (None, 5), (thing,), [])

    def test_numbers_at_their_bounds_and_beyond(self):
        self.assertEqual(how_many(KNOWN, (0, 1, 39), []), 6)
        for lost in ((-1, 2, 39), (0, 2, 40), (0, 39, 41), (-(10 ** 39), 0, 1), (0, 1, 10 ** 39), (False, 2, 3),
                     (0, True, 3)):
            self.assert_refused(NoLost, KNOWN, lost, [])
        for number in (-1, 40, True, False):
            self.assert_refused(NoLost, (None, 5), (number,), [])

    def test_out_of_order_and_twice(self):
        for lost in ((2, 30, 11), (11, 2, 30), (30, 11, 2), (2, 2, 11), (2, 11, 11), (2, 2, 2), (11, 30, 2)):
            self.assert_refused(NoLost, KNOWN, lost, [])
        self.assert_refused(NoLost, (None, None), (10, 9), [])
        self.assertEqual(how_many((None, None), (9, 10), []), 2)

    def test_a_number_of_the_list(self):
        for lost in ((2, 5, 30), (5, 11, 30), (2, 4, 5)):
            self.assert_refused(NoLost, KNOWN, lost, [])
        self.assert_refused(NoLost, (None, 0), (0,), [])
        self.assert_refused(NoLost, (39, None), (39,), [])


class NoHintsAtAll(Refused):
    def test_things_of_any_kind(self):
        for thing in anything():
            if thing != []:
                self.assert_refused(NoHints, KNOWN, LOST, thing)
        for thing in (tuple(HINTS), {0: HINTS[0]}, HINTS[0], (), None, "at", list(HINTS[0])):
            self.assert_refused(NoHints, KNOWN, LOST, thing)

    def test_eight_and_nine_hints(self):
        for many in range(9):
            self.assertEqual(how_many(KNOWN, LOST, [("at", 5, 1)] * many), 6)
        for many in (9, 10, 9999):
            self.assert_refused(NoHints, KNOWN, LOST, [("at", 5, 1)] * many)

    def test_things_that_are_no_hint_at_any_place(self):
        things = anything_but(is_hint) + [
            list(HINTS[0]), ("at", 11), ("at",), (), ("at", 11, 0, 0), ("at", 11, 0, None), ("at", (11, 0)), "at 11 0"]
        for thing in things:
            for at in range(4):
                self.assert_refused(NoHints, KNOWN, LOST, with_at(HINTS, at, thing))
            self.assert_refused(NoHints, KNOWN, LOST, HINTS + [thing])
            self.assert_refused(NoHints, KNOWN, LOST, [thing])

    def test_one_part_of_a_hint_of_another_kind(self):
        for hint in HINTS:
            for thing in anything():
                for at in range(3):
                    other = with_at(hint, at, thing)
                    if not is_hint(other):
                        self.assert_refused(NoHints, KNOWN, LOST, [other])
                        self.assert_refused(NoHints, KNOWN, LOST, HINTS[:1] + [other] + HINTS[1:])

    def test_texts_of_another_word(self):
        for word in ("At", "AT", "at ", " at", "", "a", "in", "nota", "behind", "Ahead", "next", "besides", "beside\n"):
            for given in ((11, 0), (11, 2), (2, 11), (5, 2)):
                self.assert_refused(NoHints, KNOWN, LOST, [(word, *given)])

    def test_numbers_that_are_not_there(self):
        for number in (-1, 0, 1, 3, 4, 6, 12, 29, 31, 39, 40, 10 ** 39):
            for hint in (("at", number, 0), ("not", number, 0), ("ahead", number, 11), ("ahead", 11, number),
                         ("beside", number, 11), ("beside", 11, number)):
                self.assert_refused(NoHints, KNOWN, LOST, [hint])
        self.assert_refused(NoHints, (None,), (3,), [("at", None, 0)])

    def test_a_number_with_itself(self):
        for number in NUMBERS:
            for kind in ("ahead", "beside"):
                self.assert_refused(NoHints, KNOWN, LOST, [(kind, number, number)])

    def test_places_at_their_bounds_and_beyond(self):
        for many in range(1, 7):
            known = (None,) + tuple(range(30, 29 + many))
            for kind in ("at", "not"):
                for place in range(many):
                    self.assertEqual(how_many(known, (0,), [(kind, 0, place)]), (kind == "at") == (place == 0))
                for place in (-1, -many, many, many + 1, 10 ** 39, -(10 ** 39)):
                    self.assert_refused(NoHints, known, (0,), [(kind, 0, place)])

    def test_a_place_is_no_number_and_a_number_no_place(self):
        """2 is both, 3 is a place alone, 5 a number alone."""
        self.assertEqual(how_many(KNOWN, LOST, [("at", 11, 2), ("ahead", 11, 2)]), 1)
        self.assert_refused(NoHints, KNOWN, LOST, [("ahead", 11, 3)])
        self.assert_refused(NoHints, KNOWN, LOST, [("at", 11, 5)])
        self.assertEqual(how_many((None, 9), (8,), [("at", 8, 0), ("ahead", 8, 9)]), 1)

    def test_a_truth_is_neither_number_nor_place(self):
        known, lost = (None, 5, None), (0, 1)
        for hint in (("at", 0, 0), ("at", 1, 2), ("ahead", 0, 1), ("beside", 5, 1), ("not", 1, 1)):
            self.assertGreater(how_many(known, lost, [hint]), 0)
        for hint in (("at", False, 0), ("at", 0, False), ("at", True, 2), ("at", 0, True), ("not", True, 1),
                     ("not", 1, True), ("ahead", False, 1), ("ahead", 0, True), ("ahead", True, 0), ("ahead", 1, False),
                     ("beside", True, 5), ("beside", 5, True), ("beside", False, True)):
            self.assert_refused(NoHints, known, lost, [hint])


class Order(Refused):
    def test_nothing_to_refuse(self):
        self.assertEqual(how_many(KNOWN, LOST, HINTS), 1)
        self.assertEqual(settled(KNOWN, LOST, HINTS), (11, 5, 2, 30))

    def test_two_and_three_at_once(self):
        lists = ((), list(KNOWN), (5, 5, None, None), (None, 40, None, None), (True, None), None)
        losts = ((30, 11, 2), (2, 11), list(LOST), (2, 5, 30), None)
        hints = (None, tuple(HINTS), [("at", 12, 0)], [("at", 11, 4)], HINTS * 3, [("ahead", 5, 5)])
        for known in lists:
            self.assert_refused(NoList, known, LOST, HINTS)
            for lost in losts:
                self.assert_refused(NoList, known, lost, HINTS)
                for hint in hints:
                    self.assert_refused(NoList, known, LOST, hint)
                    self.assert_refused(NoList, known, lost, hint)
        for lost in losts:
            self.assert_refused(NoLost, KNOWN, lost, HINTS)
            for hint in hints:
                self.assert_refused(NoLost, KNOWN, lost, hint)
        for hint in hints:
            self.assert_refused(NoHints, KNOWN, LOST, hint)

    def test_no_way_behind_all_others(self):
        none = [("at", 5, 0)]
        self.refused(NoWay, settled, KNOWN, LOST, none)
        self.assert_refused(NoHints, KNOWN, LOST, none + [("at", 11, 4)])
        self.assert_refused(NoHints, KNOWN, LOST, [("at", 11, 4)] + none)
        self.assert_refused(NoHints, KNOWN, LOST, none * 9)
        self.assert_refused(NoLost, KNOWN, LOST[:2], none)
        self.assert_refused(NoList, KNOWN + (5,), LOST, none)
