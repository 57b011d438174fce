"""Cloths shown as texts, and such texts read."""

from clothlayers.cloths import MOST, need_cloth
from clothlayers.errors import BadText

# Each sign stands at the place of its number.
SIGNS = ".#"


def shown(cloth):
    """The text that shows the cloth."""
    rows = need_cloth(cloth)
    return "\n".join(["".join([SIGNS[sign] for sign in row]) for row in rows])


def need_line(line, width):
    """BadText for what is no row of so many signs."""
    if len(line) != width:
        raise BadText("the rows of a text are of one length")
    if not all(sign in SIGNS for sign in line):
        raise BadText("a row of a text has no other signs than these two")


def read(text):
    """The cloth that the text shows; BadText where it shows none."""
    if type(text) is not str:
        raise BadText("a cloth is read from a text")
    lines = text.split("\n")
    width = len(lines[0])
    if len(lines) > MOST or not 1 <= width <= MOST:
        raise BadText("a text has 1 to 12 rows, each of 1 to 12 signs")
    for line in lines:
        need_line(line, width)
    return [[SIGNS.index(sign) for sign in line] for line in lines]
