"""Texts of polynomials, ratios and numbers, and what they are read as."""

from surefoot.errors import BadText
from surefoot.numbers import floor_times
from surefoot.polys import trimmed
from surefoot.ratios import common_divisor, power

MOST_FIGURES = 12
GREATEST_POWER = 12


# Of a number that isn't below 0. Some Pythons refuse to write very long numbers at once, so these are cut in two.
def figures_of(number):
    if number < 10 ** 64:
        return str(number)
    many = 64
    cut = 10 ** 64
    while cut * cut <= number:
        many = 2 * many
        cut = cut * cut
    return figures_of(number // cut) + figures_of(number % cut).zfill(many)


def whole_text(number):
    return ("-" if number < 0 else "") + figures_of(abs(number))


def part_text(size, place):
    if place == 0:
        return figures_of(size)
    figures = "" if size == 1 else figures_of(size)
    return figures + ("x" if place == 1 else "x^" + str(place))


def written(poly):
    if not poly:
        return "0"
    text = "-" if poly[-1] < 0 else ""
    for place in range(len(poly) - 1, -1, -1):
        number = poly[place]
        if number != 0:
            if place < len(poly) - 1:
                text = text + (" - " if number < 0 else " + ")
            text = text + part_text(abs(number), place)
    return text


def ratio_text(given):
    top = whole_text(given[0])
    return top if given[1] == 1 else top + "/" + figures_of(given[1])


def decimal(number, digits):
    floor = floor_times(number, power(10, digits))
    figures = figures_of(abs(floor)).zfill(digits + 1)
    cut = len(figures) - digits
    point = "." if digits > 0 else ""
    return ("-" if floor < 0 else "") + figures[:cut] + point + figures[cut:]


def end_of_figures(text, start):
    end = start
    while end < len(text) and text[end].isdigit():
        end = end + 1
    return end


# The number that the figures write.
def number_between(text, start, end):
    figures = text[start:end]
    has_noughts_ahead = figures.startswith("0") and figures != "0"
    if figures == "" or len(figures) > MOST_FIGURES or has_noughts_ahead:
        raise BadText("no number of up to 12 figures without noughts ahead", start)
    return int(figures)


# The number ahead of an x or by itself.
def size_between(text, start, end):
    is_ahead = text.startswith("x", end)
    if is_ahead and start == end:
        return 1
    size = number_between(text, start, end)
    if size == 0 or (is_ahead and size == 1):
        raise BadText("a number that is left out", start)
    return size


# (power, end) of what may stand behind a part's number.
def power_at(text, start):
    if not text.startswith("x", start):
        return (0, start)
    if not text.startswith("^", start + 1):
        return (1, start + 1)
    begin = start + 2
    end = end_of_figures(text, begin)
    place = number_between(text, begin, end)
    if place < 2 or place > GREATEST_POWER:
        raise BadText("no power from 2 to 12", begin)
    return (place, end)


# (size, power, end) of the part that begins there.
def part_at(text, start, above):
    middle = end_of_figures(text, start)
    size = size_between(text, start, middle)
    behind = power_at(text, middle)
    if behind[0] >= above:
        raise BadText("a power that isn't less than the one ahead", start)
    return (size, behind[0], behind[1])


# Whether the part behind is taken away.
def turn_at(text, start):
    between = text[start:start + 3]
    if between not in (" + ", " - "):
        raise BadText("neither a plus nor a minus between two parts", start)
    return between == " - "


def read(text):
    if text == "0":
        return []
    row = [0] * (GREATEST_POWER + 1)
    is_below = text.startswith("-")
    start = 1 if is_below else 0
    above = GREATEST_POWER + 1
    while True:
        part = part_at(text, start, above)
        above = part[1]
        row[above] = -part[0] if is_below else part[0]
        if part[2] == len(text):
            return trimmed(row)
        is_below = turn_at(text, part[2])
        start = part[2] + 3


# (under, end) of what stands behind a ratio's top.
def under_at(text, start, top):
    if not text.startswith("/", start):
        return (1, start)
    begin = start + 1
    end = end_of_figures(text, begin)
    under = number_between(text, begin, end)
    if under < 2 or common_divisor(top, under) != 1:
        raise BadText("an under that is left out or not in lowest terms", begin)
    return (under, end)


def read_ratio(text):
    is_below = text.startswith("-")
    start = 1 if is_below else 0
    end = end_of_figures(text, start)
    top = number_between(text, start, end)
    if is_below and top == 0:
        raise BadText("0 has no sign", start)
    behind = under_at(text, end, top)
    if behind[1] != len(text):
        raise BadText("something behind the ratio", behind[1])
    return (-top if is_below else top, behind[0])
