"""Points 2 and 15: what is no line, of anything, and that it changes nothing."""

from dimcellar.cellars import Cellar
from dimcellar.desk import Desk
from dimcellar.errors import NoDeed, NoLine, NoMaker
from tests.plain_desk import plain_answer, questions, words_of
from tests.things import Looked, anything, outcome

ROOMS = (2, 1)
TOLD = ("lay ann 1999 75 0 0", "lay ann 1999 75 0 0", "lay bea 2000 37 1 0", "give 1 30 zoe")
LINES = (
    "lay ann 1999 75 0 1", "move 0 1 0", "drink 0 10 zoe", "give 2 0 -", "break 0 999", "undo", "shelf 0 1", "count",
    "all", "fate 1", "twins 0")
# The places of the numbers among the words of a line.
NUMBERS = {"lay": (2, 3, 4, 5), "move": (1, 2, 3), "drink": (1, 2), "give": (1, 2), "break": (1, 2), "shelf": (1, 2),
           "fate": (1,), "twins": (1,)}
WORDS = ("", "ann", "-", "0", "1", "75", "1999", "Ann", "01", "-1", "+1", "1.0", "\t", "\n", "none", "undo", "lay")


class Lines(Looked):
    def setUp(self):
        self.desk, self.cellar = Desk(ROOMS, 3), Cellar(ROOMS, 3)
        for line in TOLD:
            self.assertEqual(self.desk.say(line), plain_answer(self.cellar, line))

    def told(self):
        return [outcome(self.desk.say, line) for line in questions(ROOMS, 3)]

    def refuse_all(self, lines):
        """Each is refused with NoLine, and nothing is changed by all of them."""
        told = self.told()
        for line in lines:
            self.refused(NoLine, self.desk.say, line)
        self.assert_same(self.told(), told)
        for _ in TOLD:
            self.assertEqual(self.desk.say("undo"), "ok")
        self.refused(NoDeed, self.desk.say, "undo")

    def hold(self, line):
        """Refused where no pattern of a line is kept to, else answered as the cellar answers it."""
        self.assert_same(outcome(self.desk.say, line), outcome(plain_answer, self.cellar, line))
        return words_of(line) is None


class NoLines(Lines):
    def test_of_anything(self):
        self.refuse_all(anything())
        self.setUp()
        self.refuse_all([["count"], ("count",), {0: "count"}, ["undo"], LINES, list(LINES), b"count", 0, None])

    def test_words_that_are_no_first_ones(self):
        self.refuse_all([
            "counts", "Count", "COUNT", "count\n", "\tcount", "count\t", "cou nt", "c", "len", "row 0 0", "smash 0 1",
            "bind 0 1", "drink_set 0 1 -", "loosen 0", "place 0", "became 0", "bottle 0", "twin", "rooms_with",
            "set_of 0", "say count", "ann", "0", "-", "ok", "none", "here", "lie ann 1999 75 0 0",
            "Lay ann 1999 75 0 0",
            "undo 0", "count 0", "all 0", "undo undo", "count all", "lay", "move", "drink", "give", "break", "shelf",
            "fate", "twins"])

    def test_blanks_at_an_end_or_side_by_side(self):
        wrong = ["", " ", "  ", "\n", "\t"]
        for line in LINES:
            wrong += [" " + line, line + " ", " " + line + " ", "  " + line, line + "  ", "\n" + line, "\t" + line]
            wrong += [line[:at] + " " + line[at:] for at, sign in enumerate(line) if sign == " "]
        self.refuse_all(wrong)

    def test_other_signs_between_the_words(self):
        wrong = []
        for line in LINES:
            for at, sign in enumerate(line):
                if sign == " ":
                    wrong += [line[:at] + other + line[at + 1:] for other in ("\t", "\n", ",", "_", "")]
        self.refuse_all(wrong)

    def test_a_word_more_or_less(self):
        wrong = []
        for line in LINES:
            words = line.split(" ")
            for at in range(len(words) + 1):
                wrong += [" ".join(words[:at] + [word] + words[at:]) for word in WORDS]
                wrong.append(" ".join(words[:at] + words[at + 1:]))
        self.refuse_all([line for line in wrong if line not in LINES and words_of(line) is None])

    def test_numbers_that_are_not_in_figures(self):
        wrong = []
        for line in LINES:
            words = line.split(" ")
            for at in NUMBERS.get(words[0], ()):
                number = words[at]
                for other in ("0" + number, "00", "000", "-" + number, "+" + number, "-0", "+0", number + ".0", "1e2",
                              number + "\n", number + "\t", "\n" + number, "\t" + number, "0x1", "1_0", "a", "-", "~",
                              "1,0", "None", "True", "(0)", "'0'", "1" * 41, "9" * 41, "1" + "0" * 40, "1" * 1900):
                    wrong.append(" ".join(words[:at] + [other] + words[at + 1:]))
        self.refuse_all(wrong)

    def test_somebodies_that_are_no_small_letters(self):
        wrong = []
        for who in ("Ann", "ANN", "ann1", "0", "1", "--", "-ann", "ann-", "an-n", "ann\n", "\n", "\t", "a\tb", "''",
                    "_", "ann,", "~", "a" * 9 + "A", "."):
            wrong += [f"drink 0 1 {who}", f"give 0 1 {who}", f"drink 9 1000 {who}", f"give 1 1 {who}"]
        self.refuse_all(wrong + ["drink 0 1 ", "give 0 1 ", "drink 0 1", "give 0 1", "break 0 1 ann", "break 0 1 -"])

    def test_no_line_ahead_of_what_the_cellar_refuses(self):
        self.refuse_all([
            "lay Ann 1999 75 0 00", "lay Ann 1899 75 9 -", "lay ann 1899 50 9 +9", "lay ANN 01999 75 0 0",
            "lay ann 1899 075 0 0", "move 9 9 09", "move 09 9 9", "drink 9 1000 A", "drink 1 01000 abcdefghi",
            "give 9 1000 1", "break 9 01000", "break 09 1000", "shelf 9 09", "fate 09", "twins 01"])


class Held(Lines):
    def test_a_sign_put_in_left_out_or_otherwise_at_any_place(self):
        refused = []
        for line in LINES:
            for sign in " \t\n0159aznAZ-+_./,~":
                for at in range(len(line) + 1):
                    refused.append(self.hold(line[:at] + sign + line[at:]))
                    refused.append(self.hold(line[:at] + sign + line[at + 1:]))
                    refused.append(self.hold(line[:at] + line[at + 1:]))
                    outcome(self.desk.say, "undo")
                    outcome(self.cellar.undo)
            self.assert_same(self.told(), [outcome(plain_answer, self.cellar, line) for line in questions(ROOMS, 3)])
        self.assertGreater(refused.count(True), 1000)
        self.assertGreater(refused.count(False), 500)

    def test_another_word_at_any_place(self):
        for line in LINES:
            words = line.split(" ")
            for at in range(len(words)):
                for word in WORDS + (str(10 ** 39), str(10 ** 40), "9" * 40, "9" * 41, "abcdefgh", "abcdefghi"):
                    self.hold(" ".join(words[:at] + [word] + words[at + 1:]))
        self.assert_same(self.told(), [outcome(plain_answer, self.cellar, line) for line in questions(ROOMS, 3)])

    def test_forty_figures_are_a_number(self):
        for line in LINES:
            words = line.split(" ")
            for at in NUMBERS.get(words[0], ()):
                for number in ("1" * 40, "9" * 40, "1" + "0" * 39):
                    self.assertFalse(self.hold(" ".join(words[:at] + [number] + words[at + 1:])))

    def test_a_nought_alone_is_a_number(self):
        for line in ("fate 0", "twins 0", "shelf 0 0", "move 0 0 0", "drink 0 0 -", "undo", "give 0 0 a", "undo",
                     "break 0 0"):
            self.assertFalse(self.hold(line))
            self.assertEqual(outcome(self.desk.say, "fate 0"), outcome(plain_answer, self.cellar, "fate 0"))

    def test_a_maker_is_any_word_without_a_blank(self):
        for maker in ("Ann", "\t", "\n", "a\tb", "ann\n", "-", "0", "01", "+", "~", "a" * 1900, "lay", "None", "''"):
            self.assertFalse(self.hold(f"lay {maker} 1999 75 1 0"))
            if maker != "lay":
                self.refused(NoMaker, self.desk.say, f"lay {maker} 1999 75 1 0")
        self.refused(NoLine, self.desk.say, "lay  1999 75 1 0")
