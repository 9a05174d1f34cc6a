"""What a desk has to answer, as plainly as can be: each line by a pattern of its own, done with a cellar."""

import re

from dimcellar.bottles import Bottle
from dimcellar.errors import NoLine

WORDS = {"MAKER": "([^ ]+)", "WHO": "(-|[a-z]+)", "N": "(0|[1-9][0-9]{0,39})"}
FORMS = (
    "lay MAKER N N N N", "move N N N", "drink N N WHO", "give N N WHO", "break N N", "undo",
    "shelf N N", "count", "all", "fate N", "twins N")


def words_of(line):
    """The words of a line with its numbers read, None where it is no line."""
    for form in FORMS:
        name, *kinds = form.split()
        told = re.fullmatch(" ".join([name] + [WORDS[kind] for kind in kinds]), line)
        if told is not None:
            return [name] + [int(word) if kind == "N" else word for kind, word in zip(kinds, told.groups())]
    return None


def listed(numbers):
    return " ".join(map(str, numbers)) if numbers else "none"


def fate_text(fate):
    if fate is None:
        return "here"
    if len(fate) == 2:
        return f"{fate[0]} {fate[1]}"
    return f"{fate[0]} {fate[1]} {fate[2] or '-'}"


def plain_answer(cellar, line):
    """What the line is answered with, done with the cellar; refused where the cellar, or a bottle, refuses it."""
    words = words_of(line)
    if words is None:
        raise NoLine()
    name, *given = words
    if name in ("drink", "give"):
        given[2] = given[2].replace("-", "")
    if name == "lay":
        return str(cellar.lay(Bottle(*given[:3]), *given[3:]))
    if name == "shelf":
        return listed(cellar.row(*given))
    if name == "twins":
        return listed(cellar.twins(*given))
    if name == "fate":
        return fate_text(cellar.became(*given))
    if name == "count":
        return str(len(cellar))
    if name == "all":
        return " / ".join(str(cellar).split("\n"))
    deed = {"move": cellar.move, "drink": cellar.drink, "give": cellar.give, "break": cellar.smash, "undo": cellar.undo}
    deed[name](*given)
    return "ok"


def questions(rooms, many):
    """All questions of a cellar of these rooms and so many bottles, and some of none that are there."""
    lines = ["count", "all"]
    for room in range(len(rooms) + 1):
        for shelf in range(5):
            lines.append(f"shelf {room} {shelf}")
    for number in range(many + 2):
        lines += [f"fate {number}", f"twins {number}"]
    return lines
