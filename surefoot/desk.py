"""The desk: rows of words that make numbers, hold them under letters and tell of them."""

from surefoot.errors import BadRow, BadText, NoNumber, NoRatio, TooGreat
from surefoot.field import added_to, inverse, less, multiplied_by, opposite, over, power_of, root_of
from surefoot.isolating import isolated
from surefoot.numbers import as_ratio, compared, floor_of, nth, of_ratio, sign_of
from surefoot.texts import decimal, ratio_text, read, read_ratio, whole_text

# What stands behind each word: a letter under which a number is new or held already, a text, or a count.
FORMS = {
    "let": ("new", "ratio"),
    "root": ("new", "place", "poly"),
    "sum": ("new", "held", "held"),
    "less": ("new", "held", "held"),
    "product": ("new", "held", "held"),
    "over": ("new", "held", "held"),
    "opposite": ("new", "held"),
    "inverse": ("new", "held"),
    "power": ("new", "held", "times"),
    "rootof": ("new", "held", "many"),
    "count": ("poly",),
    "compare": ("held", "held"),
    "sign": ("held",),
    "floor": ("held",),
    "decimal": ("held", "digits"),
    "ratio": ("held",),
}

# The least and the greatest that a count can be.
COUNTS = {"place": (0, 12), "times": (0, 12), "many": (1, 12), "digits": (0, 30)}


def fits(kind, word):
    if kind in COUNTS:
        least = COUNTS[kind][0]
        greatest = COUNTS[kind][1]
        return word in [str(count) for count in range(least, greatest + 1)]
    if kind == "new" or kind == "held":
        return len(word) == 1 and "a" <= word <= "z"
    return True


def words_of(row):
    word = row.partition(" ")[0]
    if word not in FORMS:
        raise BadRow("no such word")
    form = FORMS[word]
    # A polynomial's text has blanks of its own: it is all that is left of the row.
    words = row.split(" ", len(form)) if form[-1] == "poly" else row.split(" ")
    if len(words) != len(form) + 1:
        raise BadRow("too few or too many words")
    if not all([fits(kind, given) for kind, given in zip(form, words[1:])]):
        raise BadRow("no such letter or count")
    return words


def made(word, given):
    if word == "let":
        return of_ratio(given[0])
    if word == "root":
        return nth(given[1], given[0])
    if word == "sum":
        return added_to(given[0], given[1])
    if word == "less":
        return less(given[0], given[1])
    if word == "product":
        return multiplied_by(given[0], given[1])
    if word == "over":
        return over(given[0], given[1])
    if word == "opposite":
        return opposite(given[0])
    if word == "inverse":
        return inverse(given[0])
    if word == "power":
        return power_of(given[0], given[1])
    return root_of(given[0], given[1])


def told(word, given):
    if word == "count":
        return str(len(isolated(given[0])))
    if word == "compare":
        return str(compared(given[0], given[1]))
    if word == "sign":
        return str(sign_of(given[0]))
    if word == "floor":
        return whole_text(floor_of(given[0]))
    if word == "decimal":
        return decimal(given[0], given[1])
    found = as_ratio(given[0])
    return "none" if found is None else ratio_text(found)


def read_unless_nought(text):
    poly = read(text)
    if not poly:
        raise NoNumber("each number is a root of nought")
    return poly


class Desk:
    def __init__(self):
        self.numbers = {}

    def number_under(self, letter):
        if letter not in self.numbers:
            raise NoNumber("nothing is held under that letter")
        return self.numbers[letter]

    def value_of(self, kind, word):
        if kind == "held":
            return self.number_under(word)
        if kind == "ratio":
            return read_ratio(word)
        if kind == "poly":
            return read_unless_nought(word)
        return int(word) if kind in COUNTS else word

    def done(self, row):
        words = words_of(row)
        word = words[0]
        form = FORMS[word]
        values = [self.value_of(kind, given) for kind, given in zip(form, words[1:])]
        if form[0] != "new":
            return told(word, values)
        self.numbers[values[0]] = made(word, values[1:])
        return "ok"

    def answer(self, row):
        try:
            return self.done(row)
        except BadRow:
            return "refused: BadRow"
        except BadText as refusal:
            return "refused: BadText " + str(refusal.at)
        except NoNumber:
            return "refused: NoNumber"
        except NoRatio:
            return "refused: NoRatio"
        except TooGreat:
            return "refused: TooGreat"


def play(text):
    desk = Desk()
    return [desk.answer(row) for row in text.split("\n") if row.strip(" ") != ""]
