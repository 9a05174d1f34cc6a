"""Points 2, 3 and 14: lists of bottles, written and read by lines."""

import random

from dimcellar.bottles import Bottle
from dimcellar.errors import NoBottles, NoSize, NoText
from dimcellar.lines import read, written
from tests.plain_lines import SIZES, read_plainly
from tests.things import Looked, anything, anything_but, fields

MAKERS = ("a", "ann", "abcdefgh", "zoe")
YEARS = (1900, 1901, 1982, 1999, 2000, 2099, 2100)
TEXT = "ann 1999\n\nzoe 1900 37\n \t\nabcdefgh 2100 150\na 2000 75"
TOLD = [("ann", 1999, 75), ("zoe", 1900, 37), ("abcdefgh", 2100, 150), ("a", 2000, 75)]
# Lines that are none, each in one thing.
NO_LINES = (
    "ann", "1999", "x", "x ", "\tx", "0", "-", "ann 1999 75 0", "ann 1999 75 75", "1999 ann",
    "75 1999 ann", "ann zoe", "ann zoe 1999", "ann 75",
    "ann 75 1999", "ann 1999 ann", "ann  1999", "ann 1999  75", " ann 1999", "ann 1999 ", "ann 1999 75 ", "ann\t1999",
    "ann 1999\t75", "\tann 1999", "ann 1999\t", "ann 1999 \t", "ann \t1999", "ann 01999", "ann 1999 075",
    "ann 1999 037", "ann 0", "ann 1999 0", "ann +1999", "ann -1999", "ann 1999 +75", "ann 1999 -75", "ann 1_999",
    "ann 1999.0", "ann 1,999", "ann 1999 7_5", "ann 0x7cf", "ann 1999a", "ann a1999", "ann 19e2", "ann 1999 75.",
    "ann 1899", "ann 2101", "ann 199", "ann 19999", "ann 1899 75", "ann 2101 37", "ann 1999 1", "ann 1999 36",
    "ann 1999 38", "ann 1999 74", "ann 1999 76", "ann 1999 149", "ann 1999 151", "ann 1999 750", "ann 1999 7",
    "abcdefghi 1999", "abcdefghi 1999 75", "Ann 1999", "aNn 1999", "ann1 1999", "an-n 1999", "'ann' 1999", "- 1999",
    "ann, 1999", "ann: 1999", "Bottle('ann', 1999, 75)", "ann 1999 None", "ann None", "# ann 1999", "~", ".",
    "ann;1999",
    "ann " + "9" * 40, "ann " + "9" * 41, "ann 1999 " + "7" * 40, "ann 1999 " + "7" * 1900, "ann " + "1" * 1900,
    "a" * 1900 + " 1999", "ann 1999" + "0" * 40, "ann 1999 75" + "0" * 40, "ann 1999 " + "0" * 40 + "75")


def bottles_of(told):
    return [Bottle(*each) for each in told]


def told_of(bottles):
    return [fields(bottle) for bottle in bottles]


def some_told(chance, many):
    """The fields of so many bottles, equal ones among them."""
    kinds = [(chance.choice(MAKERS), chance.choice(YEARS), chance.choice(SIZES)) for _ in range(1 + many // 2)]
    return [chance.choice(kinds) for _ in range(many)]


class Written(Looked):
    def test_of_none_one_and_more(self):
        self.assert_same(written([]), "")
        self.assert_same(written(bottles_of([("ann", 1999, 75)])), "ann 1999")
        self.assert_same(written(bottles_of([("ann", 1999, 37)])), "ann 1999 37")
        self.assert_same(written(bottles_of(TOLD)), "ann 1999\nzoe 1900 37\nabcdefgh 2100 150\na 2000")
        self.assert_same(written(bottles=bottles_of(TOLD[:2])), "ann 1999\nzoe 1900 37")

    def test_equal_ones_and_the_order_handed_in(self):
        bottle = Bottle("zoe", 2100)
        self.assert_same(written([bottle, Bottle("ann", 1900), bottle]), "zoe 2100\nann 1900\nzoe 2100")
        self.assert_same(written([bottle] * 15), "\n".join(["zoe 2100"] * 15))

    def test_what_is_handed_in_stays(self):
        bottles = bottles_of(TOLD)
        given = list(bottles)
        told = written(given)
        self.assertEqual([id(bottle) for bottle in given], [id(bottle) for bottle in bottles])
        self.assertEqual(told_of(given), TOLD)
        self.assert_same(written(given), told)

    def test_things_that_are_no_list_of_bottles(self):
        for thing in anything():
            if thing not in ([], [Bottle("ann", 1999)]):
                self.refused(NoBottles, written, thing)
        bottles = bottles_of(TOLD)
        for thing in (tuple(bottles), (), {0: bottles[0]}, bottles[0], "ann 1999", "", ["ann 1999"], TOLD, [bottles]):
            self.refused(NoBottles, written, thing)

    def test_one_that_is_no_bottle_at_any_place(self):
        bottles = bottles_of(TOLD)
        for thing in anything_but(lambda thing: isinstance(thing, Bottle)):
            for at in range(len(bottles) + 1):
                self.refused(NoBottles, written, bottles[:at] + [thing] + bottles[at:])


class Read(Looked):
    def assert_read(self, told, text, *size):
        """The bottles, in a new list, with their texts as they are."""
        bottles = read(text, *size)
        self.assertIs(type(bottles), list)
        self.assert_same(told_of(bottles), told)
        for bottle, (maker, year, size) in zip(bottles, told):
            self.assertIs(type(bottle), Bottle)
            self.assert_same(str(bottle), f"{maker} {year}" if size == 75 else f"{maker} {year} {size}")
            self.assert_same(repr(bottle), f"Bottle('{maker}', {year}, {size})")

    def test_lines(self):
        self.assert_read(TOLD, TEXT)
        self.assert_read([("ann", 1999, 75)], "ann 1999")
        self.assert_read([("ann", 1999, 75)] * 2, "ann 1999\nann 1999 75")
        self.assert_read([("ann", 1999, 37), ("bea", 1999, 150)], "ann 1999 37\nbea 1999 150")

    def test_written_and_read_again(self):
        chance = random.Random(81)
        for many in range(16):
            for _ in range(6):
                told = some_told(chance, many)
                bottles = bottles_of(told)
                text = written(bottles)
                self.assert_same(text.split("\n") if many else text, [str(each) for each in bottles] if many else "")
                self.assert_read(told, text)
                self.assertTrue(read(text) == bottles)
                self.assert_same(written(read(text)), text)

    def test_the_same_bottle_of_each_maker_year_and_size(self):
        for maker in MAKERS:
            for year in YEARS:
                for size in SIZES:
                    self.assert_read([(maker, year, size)], f"{maker} {year} {size}")
                    self.assert_read([(maker, year, size)], f"{maker} {year}", size)

    def test_no_lines(self):
        for text in ("", "\n", "\n\n\n", " ", "\t", "  \t ", " \n\t\n", "\n \n", "\t\t\n"):
            for size in ((), (37,), (75,), (150,)):
                self.assert_read([], text, *size)

    def test_lines_of_blanks_and_tabs_count_for_nothing(self):
        chance = random.Random(82)
        for _ in range(60):
            told = some_told(chance, chance.randrange(8))
            lines = [str(Bottle(*each)) for each in told]
            for _ in range(chance.randrange(1, 6)):
                empty = "".join(chance.choice(" \t") for _ in range(chance.randrange(5)))
                lines.insert(chance.randrange(len(lines) + 1), empty)
            self.assert_read(told, "\n".join(lines))
        for empty in ("", " ", "\t", " \t ", "\t\t", " " * 900):
            for at in range(3):
                lines = ["ann 1999", "zoe 1900"]
                lines.insert(at, empty)
                self.assert_read([("ann", 1999, 75), ("zoe", 1900, 75)], "\n".join(lines))

    def test_the_size_of_lines_that_have_none(self):
        text = "ann 1999\nann 1999 37\nann 1999 75\nann 1999 150"
        for size in SIZES:
            wanted = [("ann", 1999, each) for each in (size, 37, 75, 150)]
            self.assert_read(wanted, text, size)
            self.assert_same(told_of(read(text, size=size)), wanted)
            self.assert_same(told_of(read(size=size, text=text)), wanted)
        self.assert_same(told_of(read(text)), [("ann", 1999, each) for each in (75, 37, 75, 150)])
        self.assert_same(told_of(read(text=text)), [("ann", 1999, each) for each in (75, 37, 75, 150)])

    def test_told_lists_are_new(self):
        told = read(TEXT)
        told.pop()
        told.reverse()
        self.assert_same(told_of(read(TEXT)), TOLD)
        self.assertIsNot(read(""), read(""))
        again = read(TEXT)
        self.assertFalse(any(one is other for one in told for other in again))

    def test_equal_bottles_of_unlike_lines(self):
        one, other = read("ann 1999\nann 1999 75")
        self.assertTrue(one == other)
        self.assertTrue(one == Bottle("ann", 1999))


class Refused(Looked):
    def assert_no_text(self, line, text, *size):
        self.refused_with(NoText, {"line": line}, read, text, *size)

    def test_lines_that_are_none(self):
        for line in NO_LINES:
            self.assertEqual(read_plainly(line, 75), 1, line)
            self.assert_no_text(1, line)
            self.assert_no_text(1, line, 37)
            self.assert_no_text(3, f"ann 1999\n\n{line}\nann 1999")
            self.assert_no_text(2, f"zoe 2000 37\n{line}", 150)

    def test_the_first_of_several_all_lines_counted(self):
        lines = ["ann 1999", "", "zoe 1900 37", " \t", "a 2000", "a 2001"]
        for first in range(6):
            for second in range(first, 6):
                for line in ("ann", "Ann 1999", "ann 1899", "ann 1999 50"):
                    text = list(lines)
                    text[second] = "ann 1999 76"
                    text[first] = line
                    self.assert_no_text(first + 1, "\n".join(text))

    def test_empty_lines_ahead_are_counted(self):
        for many in range(1, 12):
            self.assert_no_text(many + 1, "\n" * many + "ann")
            self.assert_no_text(many + 1, " \t\n" * many + "ann")
            self.assert_no_text(many, "\n" * (many - 1) + "ann" + "\n" * many)

    def test_a_sign_put_in_left_out_or_otherwise_at_any_place(self):
        """Just where the plain reader reads the text it is read, and likewise."""
        refused = 0
        for text in ("ann 1999", "zoe 1900 37\nabcdefgh 2100", "\nb 2099 150\n \na 2000 75\t\nc 1950"):
            for sign in " \t\n0179aAz-+._,:'\"/\\~":
                for at in range(len(text) + 1):
                    for other in (text[:at] + sign + text[at:], text[:at] + sign + text[at + 1:],
                                  text[:at] + text[at + 1:]):
                        refused += self.hold(other, 37)
        self.assertGreater(refused, 1000)

    def hold(self, text, size):
        wanted = read_plainly(text, size)
        if isinstance(wanted, int):
            self.assert_no_text(wanted, text, size)
            return True
        self.assertEqual(told_of(read(text, size)), wanted, repr(text))
        return False

    def test_words_put_in_left_out_or_otherwise(self):
        words = ["ann", "1999", "37"]
        for word in ("ann", "1999", "75", "0", "", "\t", "-", "Ann", "019", "1", "150"):
            for at in range(4):
                for other in (words[:at] + [word] + words[at:], words[:at] + [word] + words[at + 1:],
                              words[:at] + words[at + 1:]):
                    self.hold(" ".join(other), 75)
                    self.hold("zoe 1900\n" + " ".join(other), 75)

    def test_years_and_sizes_at_their_bounds_and_beyond(self):
        for year in list(range(1890, 1911)) + list(range(2090, 2111)) + [0, 1, 190, 19000, 10 ** 39]:
            self.assertIs(self.hold(f"ann {year}", 75), not 1900 <= year <= 2100)
            self.assertIs(self.hold(f"ann {year} 150", 75), not 1900 <= year <= 2100)
        for size in range(160):
            self.assertIs(self.hold(f"ann 1999 {size}", 75), size not in (37, 75, 150))

    def test_makers_of_none_eight_and_nine_letters(self):
        for many in range(12):
            maker = "abcdefghijkl"[:many]
            self.assertIs(self.hold(f"{maker} 1999", 75), not 1 <= many <= 8)
            self.assertIs(self.hold(f"{maker} 1999 37", 75), not 1 <= many <= 8)

    def test_only_line_ends_part_lines(self):
        for text in ("ann 1999\tzoe 1900", "ann 1999 zoe 1900", "ann 1999;zoe 1900", "ann 1999\\nzoe 1900"):
            self.assert_no_text(1, text)

    def test_what_is_no_text(self):
        for thing in anything_but(lambda thing: isinstance(thing, str)):
            self.assert_no_text(0, thing)
            for size in SIZES:
                self.assert_no_text(0, thing, size)
        for thing in ([TEXT], (TEXT,), {0: TEXT}, None, [Bottle("ann", 1999)]):
            self.assert_no_text(0, thing)

    def test_things_that_are_no_size(self):
        """Ahead of all else, though no line needs it."""
        things = anything_but(lambda thing: type(thing) is int and thing in SIZES) + ["75", 36, 38, 74, 76, 149, 151]
        for size in things:
            for text in ("", TEXT, "ann 1999 75", "ann", None, [], 7, "\n\nann"):
                self.refused(NoSize, read, text, size)
                self.refused(NoSize, read, size=size, text=text)

    def test_what_is_refused_is_refused_again(self):
        for text in ("ann", "\nann 1899", None):
            for _ in range(2):
                self.refused(NoText, read, text)
        self.assert_same(told_of(read(TEXT)), TOLD)
