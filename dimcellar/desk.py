"""A desk: deeds and questions of a cellar, told as lines and answered with texts."""

from dimcellar.bottles import Bottle
from dimcellar.cellars import Cellar
from dimcellar.checks import is_word, whole_in
from dimcellar.errors import NoLine

DONE = "ok"
NOBODY = "-"


def _do_lay(cellar, maker, year, size, room, shelf):
    return str(cellar.lay(Bottle(maker, year, size), room, shelf))


def _do_move(cellar, number, room, shelf):
    cellar.move(number, room, shelf)
    return DONE


def _do_drink(cellar, number, month, who):
    cellar.drink(number, month, who)
    return DONE


def _do_give(cellar, number, month, who):
    cellar.give(number, month, who)
    return DONE


def _do_break(cellar, number, month):
    cellar.smash(number, month)
    return DONE


def _do_undo(cellar):
    cellar.undo()
    return DONE


def _ask_shelf(cellar, room, shelf):
    return _listed(cellar.row(room, shelf))


def _ask_count(cellar):
    return str(len(cellar))


def _ask_all(cellar):
    return str(cellar).replace("\n", " / ")


def _ask_fate(cellar, number):
    fate = cellar.became(number)
    if fate is None:
        return "here"
    return " ".join([NOBODY if part == "" else str(part) for part in fate])


def _ask_twins(cellar, number):
    return _listed(cellar.twins(number))


def _listed(numbers):
    if len(numbers) == 0:
        return "none"
    return " ".join([str(number) for number in numbers])


# What the words behind a line's first one stand for, and what is done of them.
FORMS = {
    "lay": ("maker", "number", "number", "number", "number"),
    "move": ("number", "number", "number"),
    "drink": ("number", "number", "who"),
    "give": ("number", "number", "who"),
    "break": ("number", "number"),
    "undo": (),
    "shelf": ("number", "number"),
    "count": (),
    "all": (),
    "fate": ("number",),
    "twins": ("number",),
}
ANSWERS = {
    "lay": _do_lay,
    "move": _do_move,
    "drink": _do_drink,
    "give": _do_give,
    "break": _do_break,
    "undo": _do_undo,
    "shelf": _ask_shelf,
    "count": _ask_count,
    "all": _ask_all,
    "fate": _ask_fate,
    "twins": _ask_twins,
}


class Desk:
    """A cellar of its own, which is asked and changed by lines alone."""

    def __init__(self, rooms, hold=6):
        self._cellar = Cellar(rooms, hold)

    def say(self, line):
        """Do the deed, or answer the question, that a line tells."""
        if not isinstance(line, str):
            raise NoLine()
        first, *words = line.split(" ")
        if first not in FORMS or len(words) != len(FORMS[first]):
            raise NoLine()
        given = [_given(kind, word) for kind, word in zip(FORMS[first], words)]
        answer = ANSWERS[first]
        return answer(self._cellar, *given)


def _given(kind, word):
    """What a word hands in; whether the cellar takes it is the cellar's to say."""
    if kind == "who":
        return _who_in(word)
    worth = whole_in(word) if kind == "number" else word
    if worth is None or worth == "":
        raise NoLine()
    return worth


def _who_in(word):
    if word == NOBODY:
        return ""
    if not is_word(word, 1, len(word)):
        raise NoLine()
    return word
