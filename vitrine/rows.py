"""A house written as rows of words, and rows read to a house."""

from vitrine.errors import BadKind, BadRow, HouseError
from vitrine.house import House

FIGURES = "0123456789"
MOST_FIGURES = 10
NUMBER = "n"
TEXT = "t"

# For each word that begins a row: the place of its part in a house, what stands behind it (n for a number, t for
# a text), and how many of these, from the first on, rise from row to row of the part.
FORMS = {
    "price": (0, "nn", 0),
    "place": (1, "tt", 1),
    "bar": (2, "tt", 2),
    "thing": (3, "ttnnnntn", 1),
    "hand": (4, "ntnttn", 1),
    "lend": (4, "ntnn", 1),
    "show": (5, "tnnn", 1),
    "next": (6, "n", 0),
}


def written(words):
    """A row of words and numbers."""
    return " ".join([str(word) for word in words])


def paper_rows(house):
    """The rows of papers and loans, by rising numbers."""
    rows = []
    for thing in house.things():
        name = thing[0]
        for number, day, here, there, grade in house.papers(name):
            rows.append((number, written(["hand", number, name, day, here, there, grade])))
        for number, first, last in house.loans(name):
            rows.append((number, written(["lend", number, name, first, last])))
    return [row for number, row in sorted(rows)]


def house_rows(house):
    """The house as rows."""
    doubt, gap = house.prices()
    rows = [written(["price", doubt, gap])]
    for name, word in house.places():
        rows.append(written(["place", name, word]))
    for one, other in house.bars():
        rows.append(written(["bar", one, other]))
    for name, kind, low, high, limit, (day, place, grade) in house.things():
        rows.append(written(["thing", name, kind, low, high, limit, day, place, grade]))
    rows.extend(paper_rows(house))
    for name, first, last, size, things in house.shows():
        rows.append(written(["show", name, first, last, size] + list(things)))
    rows.append(written(["next", house.upcoming()]))
    return rows


def is_number(word):
    """Whether the word is a number: figures alone, not too many, no nought ahead of others."""
    if not 1 <= len(word) <= MOST_FIGURES or not all([sign in FIGURES for sign in word]):
        return False
    return word == "0" or word[0] != "0"


def form_of(words):
    """What has to stand behind the first word of a row."""
    form = FORMS[words[0]][1]
    if words[0] == "show":
        return form + TEXT * (len(words) - 1 - len(form))
    return form


def is_row(words):
    """Whether the words have the form of a row."""
    if words[0] not in FORMS:
        return False
    form = form_of(words)
    if len(words) - 1 != len(form):
        return False
    return all([is_number(word) if kind == NUMBER else word != "" for word, kind in zip(words[1:], form)])


def values_of(words):
    """The texts and numbers behind the first word of a row."""
    return [int(word) if kind == NUMBER else word for word, kind in zip(words[1:], form_of(words))]


def spot_of(words):
    """Where a row stands in a house: spots rise from row to row."""
    part, form, rising = FORMS[words[0]]
    return (part, tuple(values_of(words)[:rising]))


def follows(spot, last):
    """Whether a row may stand behind the last one, or, where there is none, as the first."""
    if last is None:
        return spot[0] == FORMS["price"][0]
    return spot > last


def read_price(house, values):
    """Does the deed of a price row."""
    doubt, gap = values
    house.reprice(doubt, gap)


def read_place(house, values):
    """Does the deed of a place's row."""
    name, word = values
    house.place(name, word)


def read_bar(house, values):
    """Does the deed of a bar's row."""
    one, other = values
    if one > other:
        raise BadKind("the greater kind stands first")
    house.bar(one, other)


def read_thing(house, values):
    """Does the deed of a thing's row."""
    name, kind, low, high, limit, day, home, grade = values
    house.thing(name, kind, low, high, limit, day, home, grade)


def read_hand(house, values):
    """Does the deed of a paper's row."""
    number, thing, day, here, there, grade = values
    house.skip_to(number)
    house.hand(thing, day, here, there, grade)


def read_lend(house, values):
    """Does the deed of a loan's row."""
    number, thing, first, last = values
    house.skip_to(number)
    house.lend(thing, first, last)


def read_show(house, values):
    """Does the deed of a show's row."""
    name, first, last, size, *things = values
    house.show(name, first, last, size, things)


def read_next(house, values):
    """Sets the next number."""
    house.skip_to(values[0])


DEEDS = {
    "price": read_price,
    "place": read_place,
    "bar": read_bar,
    "thing": read_thing,
    "hand": read_hand,
    "lend": read_lend,
    "show": read_show,
    "next": read_next,
}


def read_house(rows):
    """The house that is written so; BadRow at the first wrong row."""
    house = House()
    last = None
    for at, row in enumerate(rows):
        words = row.split(" ")
        if not is_row(words) or not follows(spot_of(words), last):
            raise BadRow(at)
        deed = DEEDS[words[0]]
        try:
            deed(house, values_of(words))
        except HouseError:
            raise BadRow(at) from None
        last = spot_of(words)
    if last is None or last[0] != FORMS["next"][0]:
        raise BadRow(len(rows))
    house.forget()
    return house
