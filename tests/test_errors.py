"""The interface: the classes of dimcellar.errors."""

from dimcellar import errors
from tests.things import Looked

PLAIN = (
    "NoMaker", "NoYear", "NoSize", "NoBottle", "NoBottles", "NoRooms", "NoHold", "NoMonth", "NoWho", "NoSet",
    "NoDeed", "NoSpans", "NoSpan", "NoRate", "NoWishes", "NoNotes", "NoOrder", "NoList", "NoLost", "NoHints",
    "NoWay", "NoLine", "NoNumber", "NoPlace")
OF_CELLAR = PLAIN + ("TooMany", "Crowded", "NoText")
FIELDS = {
    "TooMany": {"many": 41, "most": 40},
    "Crowded": {"first": 3, "last": 7, "many": 6},
    "NoText": {"line": 4},
    "Full": {"room": 1, "shelf": 2},
    "Gone": {"number": 5, "fate": ("drunk", 7, "ann")},
    "Kept": {"number": 5, "others": (1, 9)},
}
OF_HERE = ("Full", "Gone", "Kept")


def class_of(name):
    return getattr(errors, name)


class Errors(Looked):
    def test_the_two_families(self):
        self.assertTrue(issubclass(errors.CellarError, ValueError))
        self.assertTrue(issubclass(errors.HereError, LookupError))
        self.assertFalse(issubclass(errors.HereError, (errors.CellarError, ValueError)))
        self.assertFalse(issubclass(errors.CellarError, (errors.HereError, LookupError)))

    def test_each_is_straight_under_its_family(self):
        for names, family in ((OF_CELLAR, errors.CellarError), (OF_HERE, errors.HereError)):
            for name in names:
                self.assertEqual(class_of(name).__bases__, (family,), name)

    def test_each_is_of_no_other_class(self):
        names = OF_CELLAR + OF_HERE
        for name in names:
            for other in names:
                if other != name:
                    self.assertFalse(issubclass(class_of(name), class_of(other)), (name, other))

    def test_each_is_of_its_family_alone(self):
        for name in OF_CELLAR:
            self.assertTrue(issubclass(class_of(name), ValueError), name)
            self.assertFalse(issubclass(class_of(name), (LookupError, errors.HereError)), name)
        for name in OF_HERE:
            self.assertTrue(issubclass(class_of(name), LookupError), name)
            self.assertFalse(issubclass(class_of(name), (ValueError, errors.CellarError)), name)

    def test_each_is_defined_in_its_file(self):
        for name in OF_CELLAR + OF_HERE + ("CellarError", "HereError"):
            self.assertEqual(class_of(name).__module__, "dimcellar.errors")
            self.assertEqual(class_of(name).__name__, name)

    def test_plain_ones_are_made_with_nothing(self):
        for name in PLAIN:
            error = class_of(name)()
            self.assertIsInstance(error, errors.CellarError)
            with self.assertRaises(class_of(name)):
                raise error

    def test_fields_by_place_and_by_name(self):
        for name, wanted in FIELDS.items():
            for error in (class_of(name)(*wanted.values()), class_of(name)(**wanted)):
                for field, value in wanted.items():
                    self.assertEqual(getattr(error, field), value, (name, field))
                with self.assertRaises(class_of(name)):
                    raise error

    def test_fields_by_names_in_another_order(self):
        for name, wanted in FIELDS.items():
            error = class_of(name)(**dict(reversed(list(wanted.items()))))
            for field, value in wanted.items():
                self.assertEqual(getattr(error, field), value, (name, field))

    def test_a_text_without_a_line(self):
        self.assertEqual(errors.NoText().line, 0)
        self.assertEqual(errors.NoText(3).line, 3)

    def test_a_lasting_fate_and_a_set_of_one(self):
        self.assertEqual(errors.Gone(0, ("broken", 3)).fate, ("broken", 3))
        self.assertEqual(errors.Kept(0, ()).others, ())
