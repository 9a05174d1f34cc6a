"""Bottles, and lists of them."""

from dimcellar.checks import is_maker, is_whole, is_year
from dimcellar.errors import NoBottle, NoBottles, NoMaker, NoSize, NoYear

SIZES = (37, 75, 150)
USUAL_SIZE = 75


class Bottle:
    """A bottle of a maker, a year and a size, which stay as they are."""

    def __init__(self, maker, year, size=USUAL_SIZE):
        if not is_maker(maker):
            raise NoMaker()
        if not is_year(year):
            raise NoYear()
        if not is_size(size):
            raise NoSize()
        self.maker = maker
        self.year = year
        self.size = size

    def __eq__(self, other):
        return (isinstance(other, Bottle) and self.maker == other.maker
                and self.year == other.year and self.size == other.size)

    def __str__(self):
        if self.size == USUAL_SIZE:
            return f"{self.maker} {self.year}"
        return f"{self.maker} {self.year} {self.size}"

    def __repr__(self):
        return f"Bottle({self.maker!r}, {self.year}, {self.size})"

    def is_elder(self, other):
        if not isinstance(other, Bottle):
            raise NoBottle()
        return age_of(self) < age_of(other)


def is_size(thing):
    return is_whole(thing) and thing in SIZES


def age_of(bottle):
    """The tuple by which bottles are elder; equal just where the bottles are."""
    return bottle.year, bottle.maker, bottle.size


def are_bottles(thing):
    """Is it a list of bottles and nothing else?"""
    return isinstance(thing, list) and all([isinstance(part, Bottle) for part in thing])


def by_age(bottles):
    """The bottles, the eldest first, equal ones in the order handed in."""
    if not are_bottles(bottles):
        raise NoBottles()
    return sorted(bottles, key=age_of)


def unlike(bottles):
    """The first of each kind of equal bottles, in the order handed in."""
    if not are_bottles(bottles):
        raise NoBottles()
    seen = set()
    firsts = []
    for bottle in bottles:
        if age_of(bottle) not in seen:
            seen.add(age_of(bottle))
            firsts.append(bottle)
    return firsts
