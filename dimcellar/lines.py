"""Lists of bottles, written and read by lines."""

from dimcellar.bottles import USUAL_SIZE, Bottle, are_bottles, is_size
from dimcellar.checks import is_maker, is_year, whole_in
from dimcellar.errors import NoBottles, NoSize, NoText


def written(bottles):
    """The bottles' texts, a line each."""
    if not are_bottles(bottles):
        raise NoBottles()
    return "\n".join([str(bottle) for bottle in bottles])


def read(text, size=USUAL_SIZE):
    """The bottles of a text's lines; those without a size have the one that is handed in."""
    if not is_size(size):
        raise NoSize()
    if not isinstance(text, str):
        raise NoText()
    bottles = []
    for at, line in enumerate(text.split("\n"), start=1):
        if line.strip(" \t") != "":
            bottle = _bottle_in(line, size)
            if bottle is None:
                raise NoText(at)
            bottles.append(bottle)
    return bottles


def _bottle_in(line, size):
    """The bottle that the line tells, None where it tells none."""
    maker, *words = line.split(" ")
    numbers = [whole_in(word) for word in words]
    if len(numbers) == 1:
        numbers.append(size)
    if len(numbers) != 2 or not (is_maker(maker) and is_year(numbers[0]) and is_size(numbers[1])):
        return None
    return Bottle(maker, numbers[0], numbers[1])
