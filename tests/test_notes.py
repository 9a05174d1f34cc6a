"""Points 2, 3 and 12: notes, orders of makers and their turns."""

import copy
import itertools
import random

from dimcellar.errors import NoNotes, NoOrder
from dimcellar.notes import floor_of, nearest, turns_of
from tests.things import Looked, anything, anything_but, is_maker

SIX = ("ann", "bea", "cleo", "dan", "eve", "fay")
TWO = [("ann", "bea", "cleo"), ("cleo", "ann", "dan")]


def is_note(thing):
    return (type(thing) is tuple and 2 <= len(thing) <= 6 and all(is_maker(part) for part in thing)
            and len(set(thing)) == len(thing))


def are_notes(thing):
    return (type(thing) is list and 1 <= len(thing) <= 6 and all(is_note(part) for part in thing)
            and len({maker for note in thing for maker in note}) <= 6)


def makers_of(notes):
    return sorted({maker for note in notes for maker in note})


def turns_plainly(notes, order):
    """Each note is gone through, each two of its makers are looked up in the order."""
    turns = 0
    for note in notes:
        for better, worse in itertools.combinations(note, 2):
            if order.index(better) > order.index(worse):
                turns += 1
    return turns


def nearest_plainly(notes):
    best = None
    for order in itertools.permutations(makers_of(notes)):
        told = turns_plainly(notes, order), order
        if best is None or told < best:
            best = told
    return best


def floor_plainly(notes):
    floor = 0
    for one, other in itertools.combinations(makers_of(notes), 2):
        both = [note for note in notes if one in note and other in note]
        ahead = [note for note in both if note.index(one) < note.index(other)]
        floor += min(len(ahead), len(both) - len(ahead))
    return floor


def some_notes(chance, makers, many):
    return [tuple(chance.sample(makers, chance.randrange(2, len(makers) + 1))) for _ in range(many)]


def rows_of_notes():
    """Notes of all sorts: few and many, of few and of all makers."""
    chance = random.Random(61)
    rows = []
    for many in range(1, 7):
        for size in range(2, 7):
            for _ in range(4):
                rows.append(some_notes(chance, chance.sample(SIX, size), many))
    return rows


class Turns(Looked):
    def test_of_one_note(self):
        for notes, order, wanted in (
                ([("ann", "bea")], ("ann", "bea"), 0), ([("ann", "bea")], ("bea", "ann"), 1),
                ([("bea", "ann")], ("bea", "ann"), 0), ([("bea", "ann")], ("ann", "bea"), 1),
                ([("ann", "bea", "cleo")], ("cleo", "bea", "ann"), 3),
                ([("ann", "bea", "cleo")], ("ann", "cleo", "bea"), 1),
                ([("ann", "bea", "cleo")], ("cleo", "ann", "bea"), 2),
                ([SIX], SIX, 0), ([SIX], SIX[::-1], 15), ([SIX], SIX[1:] + SIX[:1], 5)):
            self.assert_same(turns_of(notes, order), wanted)

    def test_over_all_notes(self):
        self.assert_same(turns_of([("ann", "bea")] * 6, ("bea", "ann")), 6)
        self.assert_same(turns_of([("ann", "bea")] * 6, ("ann", "bea")), 0)
        self.assert_same(turns_of([("ann", "bea"), ("bea", "ann")], ("ann", "bea")), 1)
        self.assert_same(turns_of([SIX] * 6, SIX[::-1]), 90)
        self.assert_same(turns_of(TWO, ("ann", "bea", "cleo", "dan")), 1)
        self.assert_same(turns_of(TWO, ("cleo", "dan", "ann", "bea")), 3)

    def test_makers_that_no_note_names_together(self):
        notes = [("ann", "bea"), ("cleo", "dan")]
        for order in itertools.permutations(("ann", "bea", "cleo", "dan")):
            wanted = (order.index("ann") > order.index("bea")) + (order.index("cleo") > order.index("dan"))
            self.assert_same(turns_of(notes, order), wanted)

    def test_all_orders_held_against_a_plain_count(self):
        for notes in rows_of_notes():
            for order in list(itertools.permutations(makers_of(notes)))[::7]:
                self.assert_same(turns_of(notes, order), turns_plainly(notes, order))

    def test_by_names(self):
        self.assert_same(turns_of(notes=TWO, order=("ann", "bea", "cleo", "dan")), 1)
        self.assert_same(turns_of(order=("ann", "bea", "cleo", "dan"), notes=TWO), 1)


class Nearest(Looked):
    def test_of_one_note(self):
        self.assert_same(nearest([("bea", "ann")]), (0, ("bea", "ann")))
        self.assert_same(nearest([SIX]), (0, SIX))
        self.assert_same(nearest([SIX[::-1]]), (0, SIX[::-1]))

    def test_of_equal_turns_the_least_order(self):
        self.assert_same(nearest([("bea", "ann"), ("ann", "bea")]), (1, ("ann", "bea")))
        self.assert_same(nearest([("dan", "cleo"), ("bea", "ann")]), (0, ("bea", "ann", "dan", "cleo")))
        self.assert_same(nearest([("dan", "ann"), ("bea", "cleo")]), (0, ("bea", "cleo", "dan", "ann")))
        self.assert_same(nearest([SIX, SIX[::-1]]), (15, SIX))
        self.assert_same(nearest([("b", "aa"), ("aa", "b"), ("a", "b")]), (1, ("a", "aa", "b")))
        self.assert_same(nearest([("abc", "abd"), ("abd", "abc"), ("ab", "abd")]), (1, ("ab", "abc", "abd")))

    def test_fewer_turns_go_ahead_of_a_less_order(self):
        self.assert_same(nearest([("bea", "ann"), ("bea", "ann"), ("ann", "bea")]), (1, ("bea", "ann")))
        self.assert_same(nearest([("dan", "ann", "bea")] * 2 + [("ann", "bea", "dan")]), (2, ("dan", "ann", "bea")))

    def test_makers_in_a_ring(self):
        ring = [("ann", "bea"), ("bea", "cleo"), ("cleo", "ann")]
        self.assert_same(nearest(ring), (1, ("ann", "bea", "cleo")))
        self.assert_same(floor_of(ring), 0)
        ring = [("ann", "cleo"), ("cleo", "bea"), ("bea", "ann")]
        self.assert_same(nearest(ring), (1, ("ann", "cleo", "bea")))

    def test_held_against_all_orders_gone_through(self):
        above = 0
        for notes in rows_of_notes():
            wanted = nearest_plainly(notes)
            self.assert_same(nearest(notes), wanted)
            self.assert_same(turns_of(notes, wanted[1]), wanted[0])
            self.assert_same(floor_of(notes), floor_plainly(notes))
            self.assertLessEqual(floor_of(notes), wanted[0])
            above += floor_of(notes) < wanted[0]
        self.assertGreater(above, 5)

    def test_six_makers_that_nobody_agrees_on(self):
        notes = [("a", "b", "c", "d", "e", "f"), ("f", "e", "d", "c", "b", "a"), ("b", "a", "d", "c", "f", "e"),
                 ("c", "a", "e", "b", "f", "d"), ("d", "f", "a", "e", "b", "c"), ("e", "c", "f", "a", "d", "b")]
        for start in range(6):
            self.assert_same(nearest(notes[start:] + notes[:start]), nearest_plainly(notes))
            self.assert_same(nearest(notes[start:]), nearest_plainly(notes[start:]))

    def test_of_many_orders_with_equal_turns_the_least(self):
        chance = random.Random(63)
        alike = []
        for size in range(2, 7):
            for _ in range(12):
                makers = chance.sample(SIX, size)
                notes = [tuple(chance.sample(makers, 2)) for _ in range(chance.randrange(1, 4))]
                notes += [tuple(makers), tuple(makers[::-1])] * chance.randrange(2)
                wanted = nearest_plainly(notes)
                self.assert_same(nearest(notes), wanted)
                orders = list(itertools.permutations(makers_of(notes)))
                alike.append(sum(turns_plainly(notes, order) == wanted[0] for order in orders) > 1)
        self.assertGreater(alike.count(True), 30)

    def test_no_order_is_nearer_and_none_is_below_the_floor(self):
        chance = random.Random(62)
        for size in range(2, 6):
            for _ in range(5):
                notes = some_notes(chance, SIX[:size], 6)
                many, told = nearest(notes)
                for order in itertools.permutations(makers_of(notes)):
                    self.assertGreaterEqual(turns_of(notes, order), floor_of(notes))
                    self.assertLessEqual((many, told), (turns_of(notes, order), order))

    def test_by_name(self):
        self.assert_same(nearest(notes=[("bea", "ann")]), (0, ("bea", "ann")))
        self.assert_same(floor_of(notes=[("bea", "ann")]), 0)


class Floor(Looked):
    def test_of_notes_that_agree(self):
        for notes in ([("ann", "bea")], [SIX] * 6, [SIX, SIX[:2], SIX[3:5]], [("ann", "bea"), ("bea", "cleo")]):
            self.assert_same(floor_of(notes), 0)

    def test_of_notes_that_do_not(self):
        for notes, wanted in (
                ([("ann", "bea"), ("bea", "ann")], 1), ([("ann", "bea")] * 4 + [("bea", "ann")] * 2, 2),
                ([("ann", "bea")] * 2 + [("bea", "ann")] * 4, 2), ([("ann", "bea"), ("bea", "ann")] * 3, 3),
                ([SIX, SIX[::-1]], 15), ([SIX, SIX[::-1]] * 3, 45), (TWO, 1),
                ([("ann", "bea", "cleo"), ("bea", "ann"), ("cleo", "bea")], 2)):
            self.assert_same(floor_of(notes), wanted)


class HandedIn(Looked):
    def test_it_stays(self):
        for notes in rows_of_notes()[::9]:
            kept = copy.deepcopy(notes)
            order = tuple(makers_of(notes))
            for ask in (nearest, floor_of, lambda notes: turns_of(notes, order)):
                told = ask(notes)
                self.assert_same(notes, kept)
                self.assert_same(ask(notes), told)

    def test_it_may_be_changed_later(self):
        notes = [("bea", "ann"), ("bea", "ann")]
        told = nearest(notes)
        notes.append(("ann", "cleo"))
        notes[0] = "ann", "bea"
        self.assert_same(told, (0, ("bea", "ann")))
        self.assert_same(nearest(notes), (1, ("ann", "bea", "cleo")))
        notes.clear()
        self.refused(NoNotes, nearest, notes)

    def test_what_was_told_may_be_handed_in_again(self):
        told = nearest(TWO)
        self.assert_same(nearest([told[1]]), (0, told[1]))
        self.assert_same(turns_of(TWO, told[1]), told[0])


class Refused(Looked):
    def assert_no_notes(self, notes):
        for order in (("ann", "bea"), (), None):
            self.refused(NoNotes, turns_of, notes, order)
        self.refused(NoNotes, nearest, notes)
        self.refused(NoNotes, floor_of, notes)

    def test_things_that_are_no_notes(self):
        for thing in anything_but(are_notes):
            self.assert_no_notes(thing)
        for thing in ((("ann", "bea"),), {0: ("ann", "bea")}, ("ann", "bea"), ["ann", "bea"], [["ann", "bea"]],
                      [{"ann": 0, "bea": 1}], ["ab"], "ab"):
            self.assert_no_notes(thing)

    def test_one_to_six_notes(self):
        for many in range(1, 7):
            self.assert_same(nearest([("bea", "ann")] * many), (0, ("bea", "ann")))
            self.assert_same(turns_of([("bea", "ann")] * many, ("ann", "bea")), many)
        for many in (0, 7, 8, 9999):
            self.assert_no_notes([("bea", "ann")] * many)

    def test_two_to_six_makers_in_a_note(self):
        for many in range(2, 7):
            self.assert_same(nearest([SIX[:many]]), (0, SIX[:many]))
        for note in ((), ("ann",), SIX + ("gil",), tuple("abcdefghij")):
            self.assert_no_notes([note])
            self.assert_no_notes([("ann", "bea"), note])
            self.assert_no_notes([note, ("ann", "bea")])

    def test_six_and_seven_makers_together(self):
        self.assert_same(nearest([("dan", "ann"), ("eve", "bea"), ("fay", "cleo")])[0], 0)
        self.assert_same(nearest([SIX, SIX[:3], SIX[::-1]])[1], SIX)
        for notes in (
                [SIX, ("ann", "gil")], [("ann", "bea"), ("cleo", "dan"), ("eve", "fay"), ("ann", "gil")],
                [SIX[:4], ("gil", "hal", "ida")], [("gil", "ann"), SIX],
                [(maker, maker + "x") for maker in SIX]):
            self.assert_no_notes(notes)

    def test_a_maker_twice_in_a_note(self):
        for note in (("ann", "ann"), ("ann", "bea", "ann"), ("bea", "ann", "ann"), SIX[:5] + ("ann",),
                     ("ann",) * 6, ("ann", "bea") * 3, SIX + ("ann",)):
            self.assert_no_notes([note])
            self.assert_no_notes([("ann", "bea"), note])
        self.assert_same(nearest([("ann", "bea"), ("ann", "bea")]), (0, ("ann", "bea")))

    def test_things_that_are_no_note_at_any_place(self):
        for thing in anything_but(is_note):
            for at in range(3):
                notes = [("ann", "bea"), ("bea", "ann")]
                notes.insert(at, thing)
                self.assert_no_notes(notes)

    def test_things_that_are_no_maker_at_any_place(self):
        things = anything_but(is_maker) + ["Ann", "a b", "ann1", " ann", "ann ", "ann\n", "a-b", "abcdefghi"]
        for thing in things:
            for at in range(3):
                makers = ["ann", "bea"]
                makers.insert(at, thing)
                self.assert_no_notes([tuple(makers)])
                self.refused(NoOrder, turns_of, TWO[:1], tuple(makers))

    def test_things_that_are_no_order(self):
        for thing in anything():
            if thing not in (("ann", "bea"),):
                self.refused(NoOrder, turns_of, [("bea", "ann")], thing)
            self.refused(NoOrder, turns_of, [SIX], thing)

    def test_orders_of_other_makers(self):
        for order in ((), ("ann",), ("bea",), ("ann", "cleo"), ("ann", "bea", "cleo"), ("ann", "ann"), ("bea", "bea"),
                      ("ann", "bea", "ann"), ("ann", "bea", "bea"), ("ann", "be"), ("ann", "Bea"), ("ann", "bea", ""),
                      ("ann", "bea", None), (None, None), ("ann", ("bea",)), ("ann", ["bea"])):
            self.refused(NoOrder, turns_of, [("ann", "bea")], order)

    def test_orders_of_other_kinds(self):
        for order in (["ann", "bea"], {"ann": 0, "bea": 1}, "annbea", "ann bea", None, (("ann", "bea"),)):
            self.refused(NoOrder, turns_of, [("ann", "bea")], order)
        self.refused(NoOrder, turns_of, [("a", "b")], "ab")
        self.refused(NoOrder, turns_of, [("a", "b")], ["a", "b"])

    def test_orders_with_one_maker_left_out_twice_or_more(self):
        for at in range(6):
            self.refused(NoOrder, turns_of, [SIX], SIX[:at] + SIX[at + 1:])
            self.refused(NoOrder, turns_of, [SIX], SIX[:at] + ("gil",) + SIX[at:])
            self.refused(NoOrder, turns_of, [SIX], SIX[:at] + ("gil",) + SIX[at + 1:])
            self.refused(NoOrder, turns_of, [SIX], SIX[:at] + SIX[at - 1:at] + SIX[at + 1:] if at else SIX + SIX[:1])

    def test_two_at_once(self):
        for notes in (None, [], [("ann", "ann")], (("ann", "bea"),), [("ann", "bea")] * 7):
            for order in (None, (), ("ann", "ann"), ["ann", "bea"]):
                self.refused(NoNotes, turns_of, notes, order)
        self.refused(NoNotes, turns_of, order=None, notes=None)
        self.refused(NoOrder, turns_of, order=None, notes=[("ann", "bea")])
