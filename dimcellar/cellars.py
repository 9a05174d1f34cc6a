"""A cellar: the shelves of its rooms, what lies on them, and what became of each bottle."""

from dimcellar.bottles import Bottle
from dimcellar.checks import is_month, is_rising, is_within, is_word
from dimcellar.errors import (
    Full, Gone, Kept, NoBottle, NoDeed, NoHold, NoMonth, NoNumber, NoPlace, NoRooms, NoSet, NoWho, TooMany)

MOST_BOTTLES = 40


class Cellar:
    """Bottles by their numbers, with the shelf, the fate and the set of each.

    What a deed changes is put anew as a whole and never changed in place: so what
    was there ahead of the deed can be kept as it is, for undoing and for a twin.
    """

    def __init__(self, rooms, hold=6):
        if not _are_rooms(rooms):
            raise NoRooms()
        if not is_within(hold, 1, 9):
            raise NoHold()
        self._rooms = rooms
        self._hold = hold
        self._bottles = ()
        self._shelves = tuple([((),) * many for many in rooms])
        self._fates = ()
        self._sets = ()
        self._past = []

    def __len__(self):
        return len(self.lying())

    def __eq__(self, other):
        return (isinstance(other, Cellar) and self._rooms == other._rooms
                and self._hold == other._hold and self._now() == other._now())

    def __str__(self):
        return "\n".join([
            _row_text(room, shelf, self._shelves[room][shelf])
            for room in range(len(self._rooms))
            for shelf in range(self._rooms[room])])

    def __repr__(self):
        return f"Cellar({self._rooms!r}, {self._hold})"

    def lay(self, bottle, room=0, shelf=0):
        """Lay a bottle behind those on the shelf; told is its number."""
        if not isinstance(bottle, Bottle):
            raise NoBottle()
        self._check_place(room, shelf)
        if len(self._shelves[room][shelf]) >= self._hold:
            raise Full(room, shelf)
        number = len(self._bottles)
        if number >= MOST_BOTTLES:
            raise TooMany(number + 1, MOST_BOTTLES)
        self._keep()
        self._bottles = (*self._bottles, bottle)
        self._fates = (*self._fates, None)
        self._sets = (*self._sets, ())
        self._shelves = _laid(self._shelves, number, room, shelf)
        return number

    def move(self, number, room=0, shelf=0):
        """Move a bottle behind all others on the shelf, which may be its own."""
        self._check_lies(number)
        self._check_place(room, shelf)
        cleared = _cleared(self._shelves, (number,))
        if len(cleared[room][shelf]) >= self._hold:
            raise Full(room, shelf)
        self._keep()
        self._shelves = _laid(cleared, number, room, shelf)

    def drink(self, number, month, who=""):
        self._leave_alone(number, "drunk", month, who)

    def give(self, number, month, who=""):
        self._leave_alone(number, "given", month, who)

    def smash(self, number, month):
        """Break a bottle; those that were bound with it stay bound."""
        self._check_lies(number)
        if not is_month(month):
            raise NoMonth()
        others = self._others_of(number)
        self._keep()
        self._leave((number,), ("broken", month))
        self._sets = _put(self._sets, others, others)

    def bind(self, numbers):
        """Bind some bottles, a rising tuple of their numbers, to a set."""
        if not is_rising(numbers, 2, 6):
            raise NoSet()
        for number in numbers:
            self._check_lies(number)
        for number in numbers:
            self._check_free(number)
        self._keep()
        self._sets = _put(self._sets, numbers, numbers)

    def drink_set(self, number, month, who=""):
        """Drink all bottles of the set that the bottle is in."""
        bound = self._bound_with(number)
        _check_when_and_who(month, who)
        self._keep()
        self._leave(bound, ("drunk", month, who))

    def loosen(self, number):
        """Undo the set that the bottle is in."""
        bound = self._bound_with(number)
        self._keep()
        self._sets = _put(self._sets, bound, ())

    def undo(self):
        """Undo the last deed that isn't undone yet."""
        if len(self._past) == 0:
            raise NoDeed()
        self._bottles, self._shelves, self._fates, self._sets = self._past.pop()

    def bottle(self, number):
        self._check_number(number)
        return self._bottles[number]

    def place(self, number):
        """The room and the shelf of a bottle, None where it is gone."""
        self._check_number(number)
        for room in range(len(self._rooms)):
            for shelf in range(self._rooms[room]):
                if number in self._shelves[room][shelf]:
                    return room, shelf
        return None

    def became(self, number):
        """The fate of a bottle, None while it lies there."""
        self._check_number(number)
        return self._fates[number]

    def row(self, room=0, shelf=0):
        """The numbers on a shelf, in order."""
        self._check_place(room, shelf)
        return list(self._shelves[room][shelf])

    def counts(self):
        """How many bottles lie on each shelf, room by room."""
        return tuple([tuple([len(row) for row in shelves]) for shelves in self._shelves])

    def twins(self, number):
        """The other bottles that lie there and are equal to this one."""
        self._check_lies(number)
        return [other for other in self._like(self._bottles[number]) if other != number]

    def set_of(self, number):
        """All bottles that are bound with this one, itself too, () where it is in no set."""
        self._check_lies(number)
        return self._sets[number]

    def rooms_with(self, bottle):
        """The rooms in which bottles equal to this one lie."""
        if not isinstance(bottle, Bottle):
            raise NoBottle()
        like = self._like(bottle)
        return [
            room for room in range(len(self._rooms))
            if any([number in like for row in self._shelves[room] for number in row])]

    def lying(self):
        """The numbers of all bottles that lie there, rising."""
        return [number for number in range(len(self._fates)) if self._fates[number] is None]

    def twin(self):
        """Another cellar that is equal, with the same deeds that can be undone."""
        other = Cellar(self._rooms, self._hold)
        other._bottles, other._shelves, other._fates, other._sets = self._now()
        other._past = list(self._past)
        return other

    def _now(self):
        return self._bottles, self._shelves, self._fates, self._sets

    def _keep(self):
        """Keep what is there for undoing the deed that is about to be done."""
        self._past.append(self._now())

    def _like(self, bottle):
        return [number for number in self.lying() if self._bottles[number] == bottle]

    def _check_place(self, room, shelf):
        if not is_within(room, 0, len(self._rooms) - 1):
            raise NoPlace()
        if not is_within(shelf, 0, self._rooms[room] - 1):
            raise NoPlace()

    def _check_number(self, number):
        if not is_within(number, 0, len(self._bottles) - 1):
            raise NoNumber()

    def _check_lies(self, number):
        self._check_number(number)
        if self._fates[number] is not None:
            raise Gone(number, self._fates[number])

    def _check_free(self, number):
        if self._sets[number] != ():
            raise Kept(number, self._others_of(number))

    def _bound_with(self, number):
        """All bottles of the set that is named by one of them."""
        self._check_lies(number)
        if self._sets[number] == ():
            raise NoSet()
        return self._sets[number]

    def _others_of(self, number):
        """The rest of the set that the bottle is in."""
        return tuple([other for other in self._sets[number] if other != number])

    def _leave_alone(self, number, how, month, who):
        """A bottle that is drunk or given by itself leaves the cellar."""
        self._check_lies(number)
        _check_when_and_who(month, who)
        self._check_free(number)
        self._keep()
        self._leave((number,), (how, month, who))

    def _leave(self, numbers, fate):
        self._shelves = _cleared(self._shelves, numbers)
        self._fates = _put(self._fates, numbers, fate)
        self._sets = _put(self._sets, numbers, ())


def _are_rooms(thing):
    if not isinstance(thing, tuple) or not 1 <= len(thing) <= 4:
        return False
    return all([is_within(shelves, 1, 4) for shelves in thing])


def _check_when_and_who(month, who):
    if not is_month(month):
        raise NoMonth()
    if not is_word(who, 0, 8):
        raise NoWho()


def _put(told, numbers, worth):
    """What is told of each number, with the worth put anew for some of them."""
    return tuple([worth if number in numbers else told[number] for number in range(len(told))])


def _cleared(shelves, numbers):
    """The shelves without some bottles."""
    return tuple([
        tuple([tuple([number for number in row if number not in numbers]) for row in rows])
        for rows in shelves])


def _laid(shelves, number, room, shelf):
    """The shelves with one bottle more, behind the others on its shelf."""
    rows = list(shelves[room])
    rows[shelf] = (*rows[shelf], number)
    return (*shelves[:room], tuple(rows), *shelves[room + 1:])


def _row_text(room, shelf, row):
    return " ".join([f"{room}.{shelf}:", *[str(number) for number in row]])
