"""Lists of bottles read as plainly as can be, to hold the program against."""

import re

BLANK_LINE = re.compile(r"[ \t]*")
BOTTLE_LINE = re.compile(r"([a-z]+) ([1-9][0-9]*)( ([1-9][0-9]*))?")
SIZES = (37, 75, 150)


def fields_in(line, size):
    """Maker, year and size of a line, None where it is no bottle's."""
    told = BOTTLE_LINE.fullmatch(line)
    if told is None:
        return None
    maker, year, _, written = told.groups()
    size = size if written is None else int(written)
    if len(maker) > 8 or not 1900 <= int(year) <= 2100 or size not in SIZES:
        return None
    return maker, int(year), size


def read_plainly(text, size):
    """The fields of all bottles, or the number of the first line that is none."""
    told = []
    for at, line in enumerate(text.split("\n")):
        if not BLANK_LINE.fullmatch(line):
            if fields_in(line, size) is None:
                return at + 1
            told.append(fields_in(line, size))
    return told
