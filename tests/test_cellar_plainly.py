"""Points 3, 7 and 8: long rows of deeds, done alike in the program and in a plain cellar beside it."""

import random

from dimcellar.bottles import Bottle
from dimcellar.cellars import Cellar
from tests.plain_cellar import PlainCellar, Refusal
from tests.things import Looked, outcome, told_now

MAKERS = ("ann", "bea")
DEEDS = ("lay",) * 6 + ("move",) * 4 + (
    "drink", "give", "smash", "bind", "bind", "bind", "drink_set", "loosen", "undo", "undo")


def some_numbers(chance, plain):
    """A number, and some rising ones: most of them of bottles that lie there."""
    lying = [number for number, fate in enumerate(plain.fates) if fate is None]
    if chance.randrange(8) == 0 or len(lying) < 3:
        lying = list(range(-1, len(plain.fates) + 2))
    numbers = chance.sample(lying, min(len(lying), chance.randrange(2, 6)))
    return numbers[0], tuple(sorted(numbers))


def some_place(chance, plain):
    room = chance.randrange(len(plain.rooms))
    return room, chance.randrange(4 if chance.randrange(8) == 0 else plain.rooms[room])


def some_deed(chance, plain):
    """A deed and what is handed in, now and then what is refused."""
    name = chance.choice(DEEDS)
    number, numbers = some_numbers(chance, plain)
    month = chance.choice((0, 1, 2, 998, 999, 1000))
    who = chance.choice(("", "ann", "abcdefgh", "z", "Ann"))
    if name == "lay":
        bottle = (chance.choice(MAKERS), chance.randrange(1999, 2001), chance.choice((37, 75)))
        return name, (bottle, *some_place(chance, plain))
    if name == "move":
        return name, (number, *some_place(chance, plain))
    if name in ("drink", "give", "drink_set"):
        return name, (number, month, who)
    if name == "smash":
        return name, (number, month)
    if name == "bind":
        return name, (numbers,)
    return name, (number,) if name == "loosen" else ()


def done(cellar, name, given):
    """What the program tells or refuses."""
    if name == "lay":
        given = (Bottle(*given[0]), *given[1:])
    return outcome(getattr(cellar, name), *given)


def done_plainly(plain, name, given):
    try:
        return "told", plain.undo() if name == "undo" else plain.do(name, *given)
    except Refusal as refusal:
        return refusal.name, refusal.told


class Plainly(Looked):
    def assert_alike(self, cellar, plain):
        told, wanted = told_now(cellar, plain.rooms), plain.told()
        self.assert_same(told, wanted)

    def changed_for_its_twin(self, cellar):
        """What is done to the elder cellar from now on must not be seen in the twin."""
        twin = cellar.twin()
        if outcome(cellar.undo)[0] != "told":
            cellar.lay(Bottle("zoe", 1900))
        return twin

    def run_deeds(self, seed, rooms, hold, many):
        chance = random.Random(seed)
        cellar, plain = Cellar(rooms, hold), PlainCellar(rooms, hold)
        for at in range(many):
            name, given = some_deed(chance, plain)
            wanted = done_plainly(plain, name, given)
            self.assert_same(done(cellar, name, given), wanted)
            self.assert_alike(cellar, plain)
            if at % 10 == 0:
                cellar = self.changed_for_its_twin(cellar)
        while plain.done:
            plain.undo()
            cellar.undo()
            self.assert_alike(cellar, plain)
        self.assert_same(done(cellar, "undo", ()), ("NoDeed", {}))

    def test_small_cellars(self):
        for seed in range(12):
            self.run_deeds(seed, (1, 2), 2, 80)

    def test_larger_cellars(self):
        for seed in range(6):
            self.run_deeds(seed, (4, 1, 3), 5, 110)

    def test_cellars_with_forty_bottles(self):
        for seed in range(3):
            self.run_deeds(seed, (4, 4, 4, 4), 9, 170)
