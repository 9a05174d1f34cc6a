"""An evening written as plainly as can be, to hold the program against."""


def could_be(cellar, number, wish, chosen, twins):
    """Whether this bottle could be chosen for the wish, the chosen ones being there no more."""
    maker, least, most = wish
    bottle = cellar.bottle(number)
    if cellar.became(number) is not None or cellar.set_of(number) or number in chosen:
        return False
    if maker is not None and bottle.maker != maker or bottle.year < least or bottle.year > most:
        return False
    return twins or all(cellar.bottle(other) != bottle for other in chosen)


def why(cellar, number, others):
    if not others:
        return "only"
    if any(cellar.bottle(other) == cellar.bottle(number) for other in others):
        return "first"
    return "eldest"


def evening(cellar, many, wishes, twins):
    """Of a cellar that has seen so many bottles."""
    chosen, told = [], []
    for wish in wishes:
        could = [number for number in range(many) if could_be(cellar, number, wish, chosen, twins)]
        best = None
        for number in could:
            bottle = cellar.bottle(number)
            age = bottle.year, bottle.maker, bottle.size, number
            if best is None or age < best:
                best = age
        if best is None:
            told.append((None, "none"))
        else:
            chosen.append(best[3])
            told.append((best[3], why(cellar, best[3], [number for number in could if number != best[3]])))
    return told
