"""The line that a curve is written as, and that line read."""

from zerofence.checks import check_curve
from zerofence.dividing import trimmed
from zerofence.errors import NoLine

HIGHEST_POWER = 1000


def shown(curve):
    check_curve(curve)
    if len(curve) == 0:
        return "0"
    line = ""
    for power in range(len(curve) - 1, -1, -1):
        if curve[power] != 0:
            line = line + shown_sign(curve[power], line) + shown_figures(curve[power], power) + shown_power(power)
    return line


def shown_sign(number, line):
    if number < 0:
        return "-"
    return "" if line == "" else "+"


def shown_figures(number, power):
    if power > 0 and abs(number) == 1:
        return ""
    return str(abs(number))


def shown_power(power):
    if power == 0:
        return ""
    return "x" if power == 1 else "x" + str(power)


# Texts that no curve is written as may get through the reading of their terms:
# all of those are found out by writing the curve again.
def read(line):
    numbers = [0] * (HIGHEST_POWER + 1)
    for term in terms(line):
        numbers[read_power(term)] = read_number(term)
    curve = trimmed(numbers)
    if shown(curve) != line:
        raise NoLine("no curve is written as this line")
    return curve


def terms(line):
    return [term for term in line.replace("-", "+-").split("+") if term != ""]


def read_number(term):
    head = term.partition("x")[0]
    if "x" in term and head in ("", "-"):
        return whole(head + "1")
    return whole(head)


def read_power(term):
    if "x" not in term:
        return 0
    figures = term.partition("x")[2]
    power = 1 if figures == "" else whole(figures)
    if power > HIGHEST_POWER:
        raise NoLine("a power in a line is at most a thousand")
    return power


def whole(figures):
    try:
        return int(figures)
    except ValueError:
        raise NoLine("these are no figures")
