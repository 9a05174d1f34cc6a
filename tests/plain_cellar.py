"""A cellar written as plainly as can be, to hold the program against.

It undoes by doing all deeds but the last one again from the beginning, and finds
sets, shelves and fates by looking through everything.
"""


def is_in(thing, least, most):
    return type(thing) is int and least <= thing <= most


def is_who(thing):
    return type(thing) is str and len(thing) <= 8 and all(sign in "abcdefghijklmnopqrstuvwxyz" for sign in thing)


class Refusal(Exception):
    def __init__(self, name, **told):
        self.name = name
        self.told = told


class PlainCellar:
    def __init__(self, rooms, hold):
        self.rooms = rooms
        self.hold = hold
        self.done = []
        self.clear()

    def clear(self):
        self.bottles = []
        self.fates = []
        self.shelves = [[[] for _ in range(shelves)] for shelves in self.rooms]
        self.sets = []

    def do(self, name, *given):
        told = getattr(self, name)(*given)
        self.done.append((name, given))
        return told

    def undo(self):
        if not self.done:
            raise Refusal("NoDeed")
        deeds, self.done = self.done[:-1], []
        self.clear()
        for name, given in deeds:
            self.do(name, *given)

    def check_place(self, room, shelf):
        if not is_in(room, 0, len(self.rooms) - 1) or not is_in(shelf, 0, self.rooms[room] - 1):
            raise Refusal("NoPlace")

    def check_lies(self, number):
        if not is_in(number, 0, len(self.bottles) - 1):
            raise Refusal("NoNumber")
        if self.fates[number] is not None:
            raise Refusal("Gone", number=number, fate=self.fates[number])

    def check_month(self, month):
        if not is_in(month, 0, 999):
            raise Refusal("NoMonth")

    def check_who(self, who):
        if not is_who(who):
            raise Refusal("NoWho")

    def set_with(self, number):
        for bound in self.sets:
            if number in bound:
                return bound
        return None

    def check_free(self, number):
        bound = self.set_with(number)
        if bound is not None:
            raise Refusal("Kept", number=number, others=tuple(sorted(bound - {number})))

    def take(self, number, fate):
        for shelves in self.shelves:
            for row in shelves:
                if number in row:
                    row.remove(number)
        if fate is not None:
            self.fates[number] = fate
            bound = self.set_with(number)
            if bound is not None:
                bound.remove(number)
                if not bound:
                    self.sets.remove(bound)

    def lay(self, bottle, room, shelf):
        self.check_place(room, shelf)
        if len(self.shelves[room][shelf]) == self.hold:
            raise Refusal("Full", room=room, shelf=shelf)
        if len(self.bottles) == 40:
            raise Refusal("TooMany", many=41, most=40)
        self.bottles.append(bottle)
        self.fates.append(None)
        self.shelves[room][shelf].append(len(self.bottles) - 1)
        return len(self.bottles) - 1

    def move(self, number, room, shelf):
        self.check_lies(number)
        self.check_place(room, shelf)
        row = self.shelves[room][shelf]
        if number not in row and len(row) == self.hold:
            raise Refusal("Full", room=room, shelf=shelf)
        self.take(number, None)
        row.append(number)

    def drink(self, number, month, who):
        self.check_lies(number)
        self.check_month(month)
        self.check_who(who)
        self.check_free(number)
        self.take(number, ("drunk", month, who))

    def give(self, number, month, who):
        self.check_lies(number)
        self.check_month(month)
        self.check_who(who)
        self.check_free(number)
        self.take(number, ("given", month, who))

    def smash(self, number, month):
        self.check_lies(number)
        self.check_month(month)
        self.take(number, ("broken", month))

    def bind(self, numbers):
        if not 2 <= len(numbers) <= 6 or list(numbers) != sorted(set(numbers)):
            raise Refusal("NoSet")
        for number in numbers:
            self.check_lies(number)
        for number in numbers:
            self.check_free(number)
        self.sets.append(set(numbers))

    def drink_set(self, number, month, who):
        self.check_lies(number)
        bound = self.set_with(number)
        if bound is None:
            raise Refusal("NoSet")
        self.check_month(month)
        self.check_who(who)
        for each in sorted(bound):
            self.take(each, ("drunk", month, who))

    def loosen(self, number):
        self.check_lies(number)
        bound = self.set_with(number)
        if bound is None:
            raise Refusal("NoSet")
        self.sets.remove(bound)

    def place(self, number):
        for room, shelves in enumerate(self.shelves):
            for shelf, row in enumerate(shelves):
                if number in row:
                    return room, shelf
        return None

    def told(self):
        """What a cellar tells, as tests.things.told_now has it."""
        numbers = range(len(self.bottles))
        lying = [number for number in numbers if self.fates[number] is None]
        gone = [("Gone", {"number": number, "fate": self.fates[number]}) for number in numbers]
        rows = [(f"{room}.{shelf}:", row)
                for room, shelves in enumerate(self.shelves) for shelf, row in enumerate(shelves)]
        twins = [[other for other in lying if other != number and self.bottles[other] == self.bottles[number]]
                 for number in numbers]
        return {
            "texts": ("\n".join(" ".join([name] + [str(number) for number in row]) for name, row in rows),
                      f"Cellar({self.rooms!r}, {self.hold!r})"),
            "len": len(lying),
            "counts": tuple(tuple(len(row) for row in shelves) for shelves in self.shelves),
            "rows": [row for _, row in rows],
            "bottles": self.bottles,
            "places": [self.place(number) for number in numbers],
            "fates": self.fates,
            "twins": [("told", twins[number]) if number in lying else gone[number] for number in numbers],
            "sets": [("told", tuple(sorted(self.set_with(number) or ()))) if number in lying else gone[number]
                     for number in numbers],
            "rooms": [sorted({self.place(other)[0] for other in lying if self.bottles[other] == self.bottles[number]})
                      for number in numbers],
        }
