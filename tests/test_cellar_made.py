"""Points 2 and 6: a cellar made, and its places."""

from dimcellar.bottles import Bottle
from dimcellar.cellars import Cellar
from dimcellar.errors import Full, NoHold, NoPlace, NoRooms
from tests.things import Looked, anything, anything_but, is_number

ANN = Bottle("ann", 1999)


def are_rooms(thing):
    return type(thing) is tuple and 1 <= len(thing) <= 4 and all(is_number(part, 1, 4) for part in thing)


class Made(Looked):
    def test_rooms_at_their_bounds(self):
        for rooms in ((1,), (4,), (1, 1), (4, 1), (2, 3, 4), (1, 1, 1, 1), (4, 4, 4, 4), (1, 2, 3, 4)):
            cellar = Cellar(rooms)
            self.assert_same(cellar.counts(), tuple((0,) * shelves for shelves in rooms))
            for room, shelves in enumerate(rooms):
                for shelf in range(shelves):
                    self.assert_same(cellar.row(room, shelf), [])
                self.refused(NoPlace, cellar.row, room, shelves)
                self.refused(NoPlace, cellar.row, room, -1)
            self.refused(NoPlace, cellar.row, len(rooms), 0)
            self.refused(NoPlace, cellar.row, -1, 0)

    def test_rooms_beyond_their_bounds(self):
        for rooms in ((), (1, 1, 1, 1, 1), (0,), (5,), (1, 0), (5, 1), (1, 2, 3, 0), (4, 4, 4, 5), (-1,), (1, -1),
                      (10 ** 39,), (1,) * 9999):
            self.refused(NoRooms, Cellar, rooms)

    def test_rooms_of_other_kinds(self):
        for thing in anything_but(are_rooms):
            self.refused(NoRooms, Cellar, thing)
        for thing in ([2], [1, 2], {1: 1}, "1", "12", 1, 2):
            self.refused(NoRooms, Cellar, thing)

    def test_rooms_with_one_part_of_another_kind_at_any_place(self):
        for thing in anything_but(lambda thing: is_number(thing, 1, 4)):
            for at in range(4):
                parts = [2, 2, 2]
                parts.insert(at, thing)
                self.refused(NoRooms, Cellar, tuple(parts))

    def test_hold_at_its_bounds(self):
        for hold in range(1, 10):
            cellar = Cellar((1,), hold)
            for number in range(hold):
                self.assert_same(cellar.lay(ANN), number)
            self.refused(Full, cellar.lay, ANN)
            self.assertEqual(len(cellar), hold)

    def test_hold_beyond_its_bounds_and_of_other_kinds(self):
        for hold in (0, 10, -1, 11, 10 ** 39, -(10 ** 39)):
            self.refused(NoHold, Cellar, (1,), hold)
        for thing in anything_but(lambda thing: is_number(thing, 1, 9)):
            self.refused(NoHold, Cellar, (1,), thing)

    def test_hold_left_out_is_six(self):
        cellar = Cellar((2,))
        for number in range(6):
            self.assert_same(cellar.lay(ANN), number)
        self.refused(Full, cellar.lay, ANN)
        self.assertTrue(Cellar((2,)) == Cellar((2,), 6))
        self.assertEqual(repr(cellar), "Cellar((2,), 6)")

    def test_both_wrong(self):
        for thing in anything_but(are_rooms):
            self.refused(NoRooms, Cellar, thing, 0)
            self.refused(NoRooms, Cellar, thing, None)
        for thing in anything_but(lambda thing: is_number(thing, 1, 9)):
            self.refused(NoRooms, Cellar, (), thing)
            self.refused(NoRooms, Cellar, hold=thing, rooms=(5,))

    def test_by_names(self):
        cellar = Cellar(hold=2, rooms=(1, 2))
        self.assertEqual(repr(cellar), "Cellar((1, 2), 2)")
        self.assertEqual(repr(Cellar(rooms=(3,))), "Cellar((3,), 6)")
        self.assertEqual(repr(Cellar((3,), hold=9)), "Cellar((3,), 9)")


class Places(Looked):
    """Of lay, move and row, which are those that take a place."""

    def calls(self, cellar):
        return [
            lambda room, shelf: cellar.lay(ANN, room, shelf),
            lambda room, shelf: cellar.move(0, room, shelf),
            cellar.row,
            lambda room, shelf: cellar.row(shelf=shelf, room=room),
        ]

    def build(self):
        cellar = Cellar((1, 3, 2), 2)
        cellar.lay(ANN, 1, 1)
        return cellar

    def test_no_room(self):
        cellar = self.build()
        for thing in anything_but(lambda thing: is_number(thing, 0, 2)) + [-1, -3, 3, 4]:
            for call in self.calls(cellar):
                self.refused(NoPlace, call, thing, 0)
        self.assertEqual(str(cellar), "0.0:\n1.0:\n1.1: 0\n1.2:\n2.0:\n2.1:")

    def test_no_shelf_of_its_room(self):
        cellar = self.build()
        for room, shelves in ((0, 1), (1, 3), (2, 2)):
            for thing in anything_but(lambda thing: is_number(thing, 0, shelves - 1)) + [-1, -2, shelves]:
                for call in self.calls(cellar):
                    self.refused(NoPlace, call, room, thing)
        self.assertEqual(str(cellar), "0.0:\n1.0:\n1.1: 0\n1.2:\n2.0:\n2.1:")

    def test_both_wrong(self):
        cellar = self.build()
        for thing in anything_but(lambda thing: is_number(thing, 0, 2)):
            for call in self.calls(cellar):
                self.refused(NoPlace, call, thing, thing)
                self.refused(NoPlace, call, thing, 9)
                self.refused(NoPlace, call, 9, thing)

    def test_all_places_and_those_left_out(self):
        for room, shelves in ((0, 1), (1, 3), (2, 2)):
            for shelf in range(shelves):
                cellar = self.build()
                self.assert_same(cellar.lay(ANN, room, shelf), 1)
                self.assert_same(cellar.place(1), (room, shelf))
                cellar.move(0, room, shelf)
                self.assert_same(cellar.place(0), (room, shelf))
                self.assert_same(cellar.row(room, shelf), [1, 0])
        cellar = self.build()
        cellar.lay(ANN)
        cellar.move(0, 2)
        self.assert_same(cellar.place(0), (2, 0))
        cellar.move(0)
        self.assert_same(cellar.row(), [1, 0])
        self.assert_same(cellar.row(0), [1, 0])
        cellar.move(0, shelf=0, room=1)
        cellar.lay(ANN, room=1)
        self.assert_same(cellar.row(1), [0, 2])

    def test_a_shelf_left_out_or_a_room_left_out(self):
        cellar = Cellar((3, 2))
        cellar.lay(ANN, shelf=2)
        cellar.lay(ANN, room=1)
        self.assert_same(cellar.place(0), (0, 2))
        self.assert_same(cellar.place(1), (1, 0))
        cellar.move(1, shelf=1)
        self.assert_same(cellar.place(1), (0, 1))
        self.assert_same(cellar.row(shelf=2), [0])
        self.refused(NoPlace, cellar.row, shelf=3)
        self.refused(NoPlace, cellar.row, 1, 2)


class PlacesOfAnything(Looked):
    def test_truths_are_no_places(self):
        cellar = Cellar((4, 4, 4, 4))
        for truth in (True, False):
            self.refused(NoPlace, cellar.row, truth, 0)
            self.refused(NoPlace, cellar.row, 0, truth)
            self.refused(NoPlace, cellar.lay, ANN, truth, 0)
            self.refused(NoPlace, cellar.lay, ANN, 0, truth)

    def test_things_as_places(self):
        cellar = Cellar((1,))
        for thing in anything():
            if not is_number(thing, 0, 0):
                self.refused(NoPlace, cellar.row, thing)
                self.refused(NoPlace, cellar.row, 0, thing)
