"""What a thing must be, whatever is handed in: whole numbers, months, years, words and makers."""

MONTHS = 1000
MOST_NUMBER = 39
MOST_FIGURES = 40


def is_whole(thing):
    """A truth is an int to Python, but no whole number."""
    return isinstance(thing, int) and not isinstance(thing, bool)


def is_within(thing, least, most):
    return is_whole(thing) and least <= thing <= most


def is_number(thing):
    """Could it be a bottle's number, in whatever cellar?"""
    return is_within(thing, 0, MOST_NUMBER)


def is_month(thing):
    return is_within(thing, 0, MONTHS - 1)


def is_year(thing):
    return is_within(thing, 1900, 2100)


def is_word(thing, least, most):
    """Is it a text of so many small letters?"""
    if not isinstance(thing, str) or not least <= len(thing) <= most:
        return False
    return all(["a" <= sign <= "z" for sign in thing])


def is_maker(thing):
    return is_word(thing, 1, 8)


def is_rising(thing, least, most):
    """Is it a rising tuple of so many whole numbers?"""
    if not isinstance(thing, tuple) or not least <= len(thing) <= most:
        return False
    if not all([is_whole(number) for number in thing]):
        return False
    return all([thing[at - 1] < thing[at] for at in range(1, len(thing))])


def whole_in(word):
    """The whole number that a text tells in figures without a nought ahead, None where it tells none."""
    if not 1 <= len(word) <= MOST_FIGURES or not all(["0" <= sign <= "9" for sign in word]):
        return None
    if word[0] == "0" and word != "0":
        return None
    return int(word)
