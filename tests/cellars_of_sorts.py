"""A cellar that has seen deeds of all sorts, built anew at each call."""

from dimcellar.bottles import Bottle
from dimcellar.cellars import Cellar

ROOMS = (2, 1, 2)
HOLD = 3
FREE = 2
BOUND = 3
GONE = {1: ("drunk", 5, "zoe"), 4: ("given", 7, ""), 6: ("broken", 20), 8: ("broken", 9)}
LYING = (0, 2, 3, 5, 7, 9)
BOTTLES = 10
TEXT = "0.0: 0 2 9\n0.1:\n1.0: 3\n2.0:\n2.1: 5 7"


def ann():
    return Bottle("ann", 1999)


def bea(size=75):
    return Bottle("bea", 2000, size)


def of_sorts():
    """On the shelf 0.0, which is full, 0, 2, 9; on 1.0 3; on 2.1 5, 7; the sets are (0, 3) and (5, 7)."""
    cellar = Cellar(ROOMS, HOLD)
    for bottle, room, shelf in (
            (ann(), 0, 0), (ann(), 0, 0), (bea(), 0, 0), (ann(), 1, 0), (bea(37), 1, 0),
            (Bottle("cleo", 1950), 2, 1), (ann(), 2, 1), (bea(), 2, 1), (ann(), 0, 1)):
        cellar.lay(bottle, room, shelf)
    cellar.drink(1, 5, "zoe")
    cellar.give(4, 7)
    cellar.bind((0, 3, 6))
    cellar.smash(8, 9)
    cellar.bind((5, 7))
    cellar.smash(6, 20)
    cellar.lay(Bottle("dan", 1990, 150), 0, 0)
    return cellar


def forty(hold=9):
    """Forty bottles: on the shelf 0.0 as many as it holds, the last of all on 0.1; all others are drunk."""
    cellar = Cellar((2,), hold)
    for _ in range(hold):
        cellar.lay(ann())
    for number in range(hold, 39):
        cellar.lay(ann(), 0, 1)
        cellar.drink(number, 3)
    cellar.lay(ann(), 0, 1)
    return cellar
