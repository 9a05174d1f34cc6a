"""Points 2, 3 and 13: lost lists, the ways to make them whole, and what is settled of them."""

import copy
import itertools
import random

from dimcellar.errors import NoWay
from dimcellar.lost import how_many, settled
from tests.plain_lost import all_ways, settled_by, some_hint, some_hints, some_list
from tests.things import Looked

# Four numbers, of which 5 alone is known.
KNOWN = (None, 5, None, None)
LOST = (2, 11, 30)


def rows():
    """Lists of all lengths with none to all lost, none to eight hints of all kinds."""
    chance = random.Random(71)
    told = []
    for many in range(1, 7):
        for gaps in range(many + 1):
            for hints in range(9):
                for truly in (True, False):
                    known, lost, way = some_list(chance, many, gaps)
                    told.append((known, lost, some_hints(chance, way, hints, truly)))
    return told


class Held(Looked):
    def hold(self, known, lost, hints):
        """Told is how many ways there are, gone through plainly."""
        ways = all_ways(known, lost, hints)
        shown = f"{known} {lost} {hints}"
        self.assertEqual(how_many(known, lost, hints), len(ways), shown)
        self.assertIs(type(how_many(known, lost, hints)), int)
        if ways:
            self.assertEqual(settled(known, lost, hints), settled_by(ways), shown)
            self.assert_same(settled(known, lost, hints), settled_by(ways))
        else:
            self.refused(NoWay, settled, known, lost, hints)
        return len(ways)

    def test_rows_of_lists(self):
        seen = [self.hold(*row) for row in rows()]
        self.assertGreater(seen.count(0), 50)
        self.assertGreater(seen.count(1), 50)
        self.assertGreater(len([many for many in seen if many > 1]), 50)

    def test_the_hints_in_another_order(self):
        chance = random.Random(72)
        for known, lost, hints in rows()[::2]:
            many = how_many(known, lost, hints)
            for _ in range(3):
                other = chance.sample(hints, len(hints))
                self.assertEqual(how_many(known, lost, other), many)
                self.hold(known, lost, other)

    def test_a_hint_less_and_a_hint_more(self):
        chance = random.Random(73)
        for known, lost, hints in rows()[::2]:
            many = how_many(known, lost, hints)
            for at in range(len(hints)):
                self.assertGreaterEqual(self.hold(known, lost, hints[:at] + hints[at + 1:]), many)
            if len(hints) < 8:
                numbers = [number for number in known if number is not None] + list(lost)
                self.assertLessEqual(self.hold(known, lost, hints + [some_hint(chance, numbers)]), many)

    def test_the_same_hint_twice(self):
        for known, lost, hints in rows()[::3]:
            if 0 < len(hints) < 8:
                self.assertEqual(self.hold(known, lost, hints + hints[:1]), how_many(known, lost, hints))

    def test_each_number_at_each_place_as_a_hint_more(self):
        for known, lost, hints in rows()[::5]:
            hints = hints[:7]
            many = how_many(known, lost, hints)
            numbers = [number for number in known if number is not None] + list(lost)
            places = range(len(known))
            there = {
                (number, place): self.hold(known, lost, hints + [("at", number, place)])
                for number in numbers for place in places}
            for number in numbers:
                self.assertEqual(sum(there[number, place] for place in places), many)
            for place in places:
                self.assertEqual(sum(there[number, place] for number in numbers), many)
            if many:
                whole = settled(known, lost, hints)
                for number, place in there:
                    self.assertEqual(whole[place] == number, there[number, place] == many)

    def test_each_hint_alone_and_each_two_of_three_numbers(self):
        numbers = (4, 19, 33)
        hints = [(kind, number, place) for kind in ("at", "not") for number in numbers for place in range(3)]
        hints += [(kind, *two) for kind in ("ahead", "beside") for two in itertools.permutations(numbers, 2)]
        for known, lost in (
                ((None, None, None), numbers), ((None, 19, None), (4, 33)), ((33, None, None), (4, 19)),
                ((None, None, 4), (19, 33)), ((19, 4, None), (33,)), ((33, 19, 4), ())):
            for hint in hints:
                self.hold(known, lost, [hint])
            for two in itertools.product(hints, repeat=2):
                self.assertEqual(how_many(known, lost, list(two)), len(all_ways(known, lost, two)), two)

    def test_all_are_lost_and_many_ways_are_left(self):
        for many in range(1, 7):
            known, lost = (None,) * many, tuple(range(30, 30 + many))
            self.hold(known, lost, [])
            for kind in ("ahead", "beside"):
                for chain in range(1, many):
                    self.hold(known, lost, [(kind, 30 + at, 31 + at) for at in range(chain)])
                    self.hold(known, lost, [(kind, 31 + at, 30 + at) for at in range(chain)])
                    self.hold(known, lost, [(kind, 30, 31 + at) for at in range(chain)])
                    self.hold(known, lost, [(kind, 31 + at, 30) for at in range(chain)])
            self.hold(known, lost, [("not", 30 + at, at) for at in range(many)])


class Told(Looked):
    def assert_told(self, known, lost, hints, many, whole):
        self.assert_same(how_many(known, lost, hints), many)
        self.assert_same(settled(known, lost, hints), whole)

    def test_without_hints(self):
        self.assert_told((None,), (7,), [], 1, (7,))
        self.assert_told((None, None), (3, 7), [], 2, (None, None))
        self.assert_told(KNOWN, LOST, [], 6, (None, 5, None, None))
        self.assert_told((None,) * 6, (0, 1, 2, 3, 4, 39), [], 720, (None,) * 6)
        self.assert_told((1, None, 2, 3, 4, 5), (0,), [], 1, (1, 0, 2, 3, 4, 5))

    def test_of_nothing_lost(self):
        self.assert_told((7,), (), [], 1, (7,))
        self.assert_told((39, 0, 7), (), [], 1, (39, 0, 7))
        hints = [("at", 39, 0), ("not", 7, 1), ("ahead", 0, 7), ("beside", 0, 39)]
        self.assert_told((39, 0, 7), (), hints, 1, (39, 0, 7))

    def test_at(self):
        self.assert_told(KNOWN, LOST, [("at", 11, 0)], 2, (11, 5, None, None))
        self.assert_told(KNOWN, LOST, [("at", 11, 3), ("at", 30, 0)], 1, (30, 5, 2, 11))
        self.assert_told(KNOWN, LOST, [("at", 5, 1)], 6, (None, 5, None, None))

    def test_not(self):
        self.assert_told(KNOWN, LOST, [("not", 11, 0)], 4, (None, 5, None, None))
        self.assert_told(KNOWN, LOST, [("not", 11, 0), ("not", 11, 2)], 2, (None, 5, None, 11))
        self.assert_told(KNOWN, LOST, [("not", 11, 1), ("not", 5, 0)], 6, (None, 5, None, None))

    def test_ahead_somewhere(self):
        self.assert_told(KNOWN, LOST, [("ahead", 30, 5)], 2, (30, 5, None, None))
        self.assert_told(KNOWN, LOST, [("ahead", 5, 30), ("ahead", 5, 2)], 2, (11, 5, None, None))
        self.assert_told(KNOWN, LOST, [("ahead", 30, 11)], 3, (None, 5, None, None))
        self.assert_told(KNOWN, LOST, [("ahead", 30, 11), ("ahead", 11, 2)], 1, (30, 5, 11, 2))

    def test_beside(self):
        self.assert_told(KNOWN, LOST, [("beside", 30, 11)], 2, (2, 5, None, None))
        self.assert_told(KNOWN, LOST, [("beside", 5, 2), ("beside", 5, 11)], 2, (None, 5, None, 30))
        self.assert_told(KNOWN, LOST, [("beside", 11, 5), ("beside", 11, 30)], 1, (2, 5, 11, 30))

    def test_settled_though_there_are_many_ways(self):
        hints = [("beside", 1, 2), ("beside", 2, 3), ("beside", 3, 4), ("beside", 4, 5)]
        self.assert_told((None,) * 5, (1, 2, 3, 4, 5), hints, 2, (None, None, 3, None, None))
        self.assert_told((None,) * 6, (0, 1, 2, 3, 4, 5), hints, 4, (None,) * 6)
        self.assert_told((None,) * 6, (0, 1, 2, 3, 4, 5), hints + [("not", 0, 0)], 2, (None, None, 3, None, None, 0))

    def test_no_way(self):
        for hints in (
                [("at", 5, 0)], [("not", 5, 1)], [("at", 11, 1)], [("ahead", 11, 5), ("ahead", 2, 5)],
                [("at", 11, 0), ("at", 11, 2)], [("at", 11, 0), ("at", 2, 0)], [("at", 11, 0), ("not", 11, 0)],
                [("ahead", 2, 11), ("ahead", 11, 2)], [("ahead", 2, 11), ("ahead", 11, 30), ("ahead", 30, 2)],
                [("beside", 5, 2), ("beside", 5, 11), ("beside", 5, 30)], [("beside", 2, 30), ("at", 2, 0)],
                [("not", 11, 0), ("not", 11, 2), ("not", 11, 3)]):
            self.assert_same(how_many(KNOWN, LOST, hints), 0)
            self.refused(NoWay, settled, KNOWN, LOST, hints)
        for hints in ([("at", 7, 1)], [("not", 7, 0)], [("ahead", 8, 7)]):
            self.assert_same(how_many((7, 8), (), hints), 0)
            self.refused(NoWay, settled, (7, 8), (), hints)
        self.assert_same(how_many((7, 8, 9), (), [("beside", 7, 9)]), 0)
        self.refused(NoWay, settled, (7, 8, 9), (), [("beside", 7, 9)])

    def test_the_number_0_is_no_gap(self):
        self.assert_told((0, None), (1,), [], 1, (0, 1))
        self.assert_told((None, None), (0, 1), [("at", 0, 0)], 1, (0, 1))
        self.assert_told((None, 1), (0,), [("ahead", 0, 1), ("at", 1, 1)], 1, (0, 1))

    def test_by_names(self):
        self.assert_same(how_many(known=KNOWN, lost=LOST, hints=[("at", 11, 0)]), 2)
        self.assert_same(how_many(hints=[("at", 11, 0)], lost=LOST, known=KNOWN), 2)
        self.assert_same(settled(known=KNOWN, lost=LOST, hints=[("at", 11, 0)]), (11, 5, None, None))
        self.assert_same(settled(hints=[("at", 11, 0)], lost=LOST, known=KNOWN), (11, 5, None, None))

    def test_what_is_handed_in_stays(self):
        for known, lost, hints in rows()[::4]:
            kept = copy.deepcopy((known, lost, hints))
            for ask in (how_many, settled):
                try:
                    told = ask(known, lost, hints)
                except NoWay:
                    told = None
                self.assert_same((known, lost, hints), kept)
                try:
                    self.assert_same(ask(known, lost, hints), told)
                except NoWay:
                    self.assertIsNone(told)

    def test_what_was_told_may_be_handed_in_again(self):
        whole = settled(KNOWN, LOST, [("at", 11, 0)])
        self.assert_told(whole, (2, 30), [], 2, (11, 5, None, None))
        whole = settled(whole, (2, 30), [("ahead", 30, 2)])
        self.assert_told(whole, (), [("beside", 30, 2)], 1, (11, 5, 30, 2))
