"""Heights: read from a text into whole tenths of a millimetre, and printed."""

from markheights.grammar import MINUS
from markheights.grammar import POINT

ZERO = 48
METRE = 10000
PLACES = 4


def number_of(digits):
    number = 0
    for digit in digits:
        number = number * 10 + digit - ZERO
    return number


def height_of(signs):
    digits = list(signs)
    below = digits[0] == MINUS
    if below:
        digits = digits[1:]
    point = digits.index(POINT) if POINT in digits else len(digits)
    behind = digits[point + 1:]
    filled = behind + [ZERO] * (PLACES - len(behind))
    amount = number_of(digits[:point] + filled)
    return -amount if below else amount


# Each height has one printed form, so it is made from the height alone.
def printed_height(height):
    amount = abs(height)
    written = str(amount // METRE)
    behind = str(amount % METRE).zfill(PLACES).rstrip("0")
    if behind != "":
        written = written + "." + behind
    if height < 0:
        written = "-" + written
    return [ord(sign) for sign in written]
