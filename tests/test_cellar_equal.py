"""Point 8: equal cellars, and twins of a cellar."""

from dimcellar.bottles import Bottle
from dimcellar.cellars import Cellar
from dimcellar.errors import NoDeed, NoNumber
from tests.cellars_of_sorts import BOTTLES, HOLD, ROOMS, ann, bea, of_sorts
from tests.things import Looked, anything, told_backwards, told_now


def laid(rooms=(2, 2), hold=6, bottles=(("ann", 1999, 75), ("ann", 1999, 75), ("bea", 2000, 75))):
    cellar = Cellar(rooms, hold)
    for maker, year, size in bottles:
        cellar.lay(Bottle(maker, year, size))
    return cellar


def with_deeds(*deeds):
    cellar = laid()
    for deed in deeds:
        deed(cellar)
    return cellar


class Equal(Looked):
    def assert_equal_to(self, one, other, wanted):
        self.assertIs(one == other, wanted)
        self.assertIs(other == one, wanted)
        self.assertIs(one != other, not wanted)
        self.assertIs(other != one, not wanted)

    def test_equal_ones(self):
        self.assert_equal_to(Cellar((1, 2)), Cellar((1, 2), 6), True)
        self.assert_equal_to(laid(), laid(), True)
        self.assert_equal_to(of_sorts(), of_sorts(), True)
        cellar = of_sorts()
        self.assert_equal_to(cellar, cellar, True)

    def test_other_hold_alone(self):
        self.assert_equal_to(Cellar((1, 2), 6), Cellar((1, 2), 7), False)
        self.assert_equal_to(laid(), laid(hold=5), False)

    def test_other_rooms_alone(self):
        self.assert_equal_to(Cellar((1, 2)), Cellar((2, 1)), False)
        self.assert_equal_to(Cellar((1, 2)), Cellar((1, 2, 1)), False)
        self.assert_equal_to(laid(), laid(rooms=(2, 3)), False)
        self.assert_equal_to(laid(), laid(rooms=(2,)), False)

    def test_another_bottle_alone(self):
        for bottle in (("eve", 2000, 75), ("bea", 2001, 75), ("bea", 2000, 37)):
            self.assert_equal_to(laid(), laid(bottles=(("ann", 1999, 75), ("ann", 1999, 75), bottle)), False)
        self.assert_equal_to(laid(), laid(bottles=(("ann", 1999, 75), ("bea", 2000, 75), ("ann", 1999, 75))), False)

    def test_another_bottle_alone_that_is_gone(self):
        one, other = with_deeds(lambda cellar: cellar.smash(2, 1)), laid(bottles=(
            ("ann", 1999, 75), ("ann", 1999, 75), ("bea", 2000, 37)))
        other.smash(2, 1)
        self.assert_equal_to(one, other, False)

    def test_a_bottle_more(self):
        more = with_deeds(lambda cellar: cellar.lay(ann(), 1, 1))
        self.assert_equal_to(laid(), more, False)
        more.smash(3, 1)
        self.assert_equal_to(laid(), more, False)

    def test_another_shelf_alone(self):
        self.assert_equal_to(laid(), with_deeds(lambda cellar: cellar.move(2, 0, 1)), False)
        self.assert_equal_to(with_deeds(lambda cellar: cellar.move(2, 1, 0)),
                             with_deeds(lambda cellar: cellar.move(2, 1, 1)), False)

    def test_another_order_on_a_shelf_alone(self):
        self.assert_equal_to(laid(), with_deeds(lambda cellar: cellar.move(0)), False)
        turned = with_deeds(lambda cellar: cellar.move(0), lambda cellar: cellar.move(1),
                            lambda cellar: cellar.move(2))
        self.assert_equal_to(laid(), turned, True)

    def test_another_fate_alone(self):
        def fates():
            return [
                with_deeds(lambda cellar: cellar.drink(0, 1, "ann")), with_deeds(lambda cellar: cellar.drink(0, 1)),
                with_deeds(lambda cellar: cellar.drink(0, 2)), with_deeds(lambda cellar: cellar.give(0, 1, "ann")),
                with_deeds(lambda cellar: cellar.smash(0, 1)), with_deeds(lambda cellar: cellar.smash(0, 2)),
                with_deeds(lambda cellar: cellar.drink(1, 1)), laid()]
        for at, one in enumerate(fates()):
            for other_at, other in enumerate(fates()):
                self.assert_equal_to(one, other, at == other_at)

    def test_another_set_alone(self):
        def sets():
            return [
                laid(), with_deeds(lambda cellar: cellar.bind((0, 1))), with_deeds(lambda cellar: cellar.bind((0, 2))),
                with_deeds(lambda cellar: cellar.bind((0, 1, 2)))]
        for at, one in enumerate(sets()):
            for other_at, other in enumerate(sets()):
                self.assert_equal_to(one, other, at == other_at)

    def test_a_set_of_one_alone(self):
        one = with_deeds(lambda cellar: cellar.bind((0, 1)), lambda cellar: cellar.smash(1, 3))
        other = with_deeds(lambda cellar: cellar.smash(1, 3))
        self.assert_equal_to(one, other, False)
        one.loosen(0)
        self.assert_equal_to(one, other, True)

    def test_sets_of_the_gone_do_not_count(self):
        one = with_deeds(lambda cellar: cellar.bind((0, 1)), lambda cellar: cellar.drink_set(1, 3, "ann"))
        other = with_deeds(lambda cellar: cellar.drink(1, 3, "ann"), lambda cellar: cellar.drink(0, 3, "ann"))
        self.assert_equal_to(one, other, True)

    def test_ways_that_led_there_do_not_count(self):
        way = with_deeds(
            lambda cellar: cellar.move(2, 1, 1), lambda cellar: cellar.bind((0, 2)),
            lambda cellar: cellar.loosen(2), lambda cellar: cellar.move(2), lambda cellar: cellar.smash(0, 1),
            lambda cellar: cellar.undo())
        self.assert_equal_to(way, laid(), True)

    def test_the_same_reached_by_unlike_last_deeds(self):
        ways = [
            with_deeds(lambda cellar: cellar.move(0, 1, 0), lambda cellar: cellar.drink(1, 3)),
            with_deeds(lambda cellar: cellar.drink(1, 3), lambda cellar: cellar.move(0, 1, 0)),
            with_deeds(lambda cellar: cellar.move(0, 1, 0), lambda cellar: cellar.drink(1, 3),
                       lambda cellar: cellar.move(2), lambda cellar: cellar.bind((0, 2)),
                       lambda cellar: cellar.loosen(0)),
            with_deeds(lambda cellar: cellar.drink(1, 3), lambda cellar: cellar.move(2, 1, 1),
                       lambda cellar: cellar.move(0, 1, 0), lambda cellar: cellar.move(2, 0, 0)),
            with_deeds(lambda cellar: cellar.smash(1, 4), lambda cellar: cellar.undo(),
                       lambda cellar: cellar.move(0, 1, 0), lambda cellar: cellar.drink(1, 3)),
        ]
        for one in ways:
            for other in ways:
                self.assert_equal_to(one, other, True)

    def test_undone_is_equal_again(self):
        cellar = of_sorts()
        cellar.drink_set(5, 1)
        self.assert_equal_to(cellar, of_sorts(), False)
        cellar.undo()
        self.assert_equal_to(cellar, of_sorts(), True)


class Twin(Looked):
    def test_is_another_one_that_is_equal(self):
        for cellar in (Cellar((1, 2), 3), laid(), of_sorts()):
            twin = cellar.twin()
            self.assertIs(type(twin), Cellar)
            self.assertIsNot(twin, cellar)
            self.assertTrue(twin == cellar)
            self.assertFalse(twin != cellar)
        twin = of_sorts().twin()
        self.assertEqual(repr(twin), f"Cellar({ROOMS}, {HOLD})")
        self.assertEqual(told_now(twin, ROOMS), told_now(of_sorts(), ROOMS))

    def test_has_the_same_that_can_be_undone(self):
        self.assertEqual(told_backwards(of_sorts().twin(), ROOMS), told_backwards(of_sorts(), ROOMS))
        cellar = of_sorts()
        cellar.undo()
        cellar.undo()
        twin = cellar.twin()
        self.assertEqual(told_backwards(twin, ROOMS), told_backwards(cellar, ROOMS))
        self.refused(NoDeed, twin.undo)
        self.refused(NoNumber, twin.bottle, 0)

    def test_goes_on_by_itself(self):
        cellar = of_sorts()
        twin = cellar.twin()
        wanted = told_now(cellar, ROOMS)
        for deed in (lambda: twin.lay(bea(), 0, 1), lambda: twin.move(0), lambda: twin.drink_set(5, 1),
                     lambda: twin.smash(3, 2), lambda: twin.loosen(0), lambda: twin.bind((0, 2)),
                     lambda: twin.give(9, 3)):
            deed()
            self.assertEqual(told_now(cellar, ROOMS), wanted)
            self.assertFalse(twin == cellar)
        self.assertEqual(told_backwards(cellar, ROOMS), told_backwards(of_sorts(), ROOMS))
        for _ in range(7):
            twin.undo()
        self.assertTrue(twin == of_sorts())
        self.assertEqual(told_backwards(twin, ROOMS), told_backwards(of_sorts(), ROOMS))

    def test_does_not_hang_on_the_first_one(self):
        cellar = of_sorts()
        twin = cellar.twin()
        cellar.drink(2, 1)
        cellar.lay(ann(), 2, 0)
        self.assertEqual(told_now(twin, ROOMS), told_now(of_sorts(), ROOMS))
        for _ in range(18):
            cellar.undo()
        self.refused(NoDeed, cellar.undo)
        self.assertEqual(told_backwards(twin, ROOMS), told_backwards(of_sorts(), ROOMS))

    def test_undone_apart(self):
        cellar = of_sorts()
        twin = cellar.twin()
        twin.undo()
        self.refused(NoNumber, twin.bottle, BOTTLES - 1)
        self.assertEqual(told_now(cellar, ROOMS), told_now(of_sorts(), ROOMS))
        cellar.undo()
        self.assertTrue(twin == cellar)
        cellar.undo()
        self.assertFalse(twin == cellar)

    def test_a_twin_of_a_twin(self):
        twin = of_sorts().twin().twin()
        self.assertTrue(twin == of_sorts())
        self.assertEqual(told_backwards(twin, ROOMS), told_backwards(of_sorts(), ROOMS))

    def test_a_cellar_is_no_other_thing(self):
        cellar = of_sorts()
        for thing in anything():
            self.assertFalse(cellar == thing)
            self.assertTrue(cellar != thing)
