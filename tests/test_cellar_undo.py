"""Point 7: deeds undone, the last one first."""

from dimcellar.bottles import Bottle
from dimcellar.cellars import Cellar
from dimcellar.errors import Full, NoDeed, NoNumber, TooMany
from tests.cellars_of_sorts import HOLD, ROOMS, TEXT, ann, bea, forty, of_sorts
from tests.things import Looked, told_backwards, told_now

# One of each, in an order in which each can be done behind those ahead of it in the cellar of sorts.
DEEDS = [
    lambda cellar: cellar.lay(bea(), 0, 1),
    lambda cellar: cellar.move(0, 0, 0),
    lambda cellar: cellar.move(3, 2, 1),
    lambda cellar: cellar.drink(2, 30, "ann"),
    lambda cellar: cellar.bind((9, 10)),
    lambda cellar: cellar.smash(10, 31),
    lambda cellar: cellar.drink_set(7, 32),
    lambda cellar: cellar.loosen(9),
    lambda cellar: cellar.give(9, 33),
    lambda cellar: cellar.lay(Bottle("eve", 2001, 37), 2, 0),
    lambda cellar: cellar.loosen(0),
    lambda cellar: cellar.smash(0, 34),
    lambda cellar: cellar.move(11, 2, 0),
]


class Undone(Looked):
    def test_no_deed(self):
        cellar = Cellar((1, 2))
        for _ in range(3):
            self.refused(NoDeed, cellar.undo)
        cellar.lay(ann())
        self.assertIsNone(cellar.undo())
        for _ in range(3):
            self.refused(NoDeed, cellar.undo)
        self.assertEqual(str(cellar), "0.0:\n1.0:\n1.1:")

    def test_each_deed_alone(self):
        for at in range(len(DEEDS)):
            cellar = of_sorts()
            for deed in DEEDS[:at]:
                deed(cellar)
            wanted = told_now(cellar, ROOMS)
            DEEDS[at](cellar)
            self.assertIsNone(cellar.undo())
            self.assertEqual(told_now(cellar, ROOMS), wanted)

    def test_all_deeds_to_the_beginning(self):
        cellar = of_sorts()
        begun = told_backwards(of_sorts(), ROOMS)
        wanted = []
        for deed in DEEDS:
            wanted.insert(0, told_now(cellar, ROOMS))
            deed(cellar)
        wanted.insert(0, told_now(cellar, ROOMS))
        self.assertEqual(told_backwards(cellar, ROOMS), wanted + begun[1:])
        self.assertEqual(len(begun), 17)
        self.refused(NoDeed, cellar.undo)
        self.assertEqual(repr(cellar), f"Cellar({ROOMS}, {HOLD})")
        self.assertTrue(cellar == Cellar(ROOMS, HOLD))

    def test_undoing_is_no_deed(self):
        cellar = Cellar((1,))
        cellar.lay(ann())
        cellar.lay(bea())
        cellar.undo()
        cellar.undo()
        self.refused(NoDeed, cellar.undo)
        self.assertEqual(len(cellar), 0)

    def test_deeds_behind_an_undoing(self):
        cellar = Cellar((1, 1))
        cellar.lay(ann())
        cellar.lay(bea())
        cellar.undo()
        self.refused(NoNumber, cellar.bottle, 1)
        self.assert_same(cellar.lay(bea(37), 1), 1)
        self.assertEqual(str(cellar.bottle(1)), "bea 2000 37")
        cellar.move(0, 1)
        cellar.undo()
        cellar.undo()
        self.assertEqual(str(cellar), "0.0: 0\n1.0:")
        cellar.undo()
        self.refused(NoDeed, cellar.undo)

    def test_done_again_as_if_never_done(self):
        cellar = of_sorts()
        for deed in DEEDS:
            deed(cellar)
            cellar.undo()
            deed(cellar)
        straight = of_sorts()
        for deed in DEEDS:
            deed(straight)
        self.assertEqual(told_backwards(cellar, ROOMS), told_backwards(straight, ROOMS))

    def test_back_to_its_place_on_the_shelf(self):
        for leave in (lambda cellar: cellar.drink(2, 1), lambda cellar: cellar.give(2, 1),
                      lambda cellar: cellar.smash(2, 1), lambda cellar: cellar.move(2, 0, 0),
                      lambda cellar: cellar.move(2, 1, 0), lambda cellar: cellar.drink_set(5, 1)):
            cellar = of_sorts()
            leave(cellar)
            self.assertNotEqual(str(cellar), TEXT)
            cellar.undo()
            self.assertEqual(str(cellar), TEXT)

    def test_a_set_is_whole_again(self):
        cellar = of_sorts()
        cellar.smash(3, 1)
        self.assert_same(cellar.set_of(0), (0,))
        cellar.undo()
        self.assert_same((cellar.set_of(0), cellar.set_of(3)), ((0, 3), (0, 3)))
        cellar.drink_set(0, 1)
        cellar.undo()
        self.assert_same((cellar.set_of(0), cellar.set_of(3)), ((0, 3), (0, 3)))
        cellar.loosen(0)
        cellar.undo()
        self.assert_same((cellar.set_of(0), cellar.set_of(3)), ((0, 3), (0, 3)))
        cellar.bind((2, 9))
        cellar.undo()
        self.assert_same((cellar.set_of(2), cellar.set_of(9)), ((), ()))

    def test_room_again_for_a_fortieth(self):
        cellar = forty()
        self.refused(TooMany, cellar.lay, bea(), 0, 1)
        cellar.undo()
        self.assert_same(cellar.lay(bea(), 0, 1), 39)
        self.refused(TooMany, cellar.lay, bea(), 0, 1)

    def test_full_again(self):
        cellar = of_sorts()
        cellar.smash(0, 1)
        cellar.undo()
        self.refused(Full, cellar.lay, ann())

    def test_questions_are_no_deeds(self):
        cellar = Cellar((1,))
        bottle = ann()
        cellar.lay(bottle)
        for ask in (lambda: cellar.bottle(0), lambda: cellar.place(0), lambda: cellar.became(0), cellar.row,
                    cellar.counts, lambda: cellar.twins(0), lambda: cellar.set_of(0), cellar.twin,
                    lambda: cellar.rooms_with(bottle), lambda: len(cellar), lambda: str(cellar),
                    lambda: repr(cellar), lambda: cellar == cellar.twin()):
            ask()
        cellar.undo()
        self.refused(NoDeed, cellar.undo)

    def test_many_deeds(self):
        cellar = Cellar((2,), 9)
        for _ in range(9):
            cellar.lay(ann())
        for number in range(900):
            cellar.move(number % 9)
        for _ in range(899):
            cellar.undo()
        self.assert_same(cellar.row(), [1, 2, 3, 4, 5, 6, 7, 8, 0])
        cellar.undo()
        self.assert_same(cellar.row(), [0, 1, 2, 3, 4, 5, 6, 7, 8])
        for _ in range(9):
            cellar.undo()
        self.refused(NoDeed, cellar.undo)
