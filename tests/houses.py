"""Houses to try, all that can be asked of one, and deeds drawn by a seed."""

import random

from tests import show_reference
from vitrine.errors import HouseError
from vitrine.house import House

WORDS = ["lit", "dark", "bench", "out"]
PLACES = ["attic", "barn", "cellar", "den", "hall", "shop"]
KINDS = ["iron", "silk", "wood"]


def letters(many):
    """So many unlike names."""
    return ["n" + one + other for one in "abcdefghij" for other in "abcdefghij"][:many]


def small_house():
    """A house with two of nearly everything; the next number is 5."""
    house = House()
    for name, word in (("hall", "lit"), ("den", "dark"), ("shop", "bench")):
        house.place(name, word)
    house.thing("cap", "silk", 10, 60, 100, 10, "hall", 2)
    house.thing("bow", "iron", 50, 90, 0, 0, "den", 0)
    house.hand("cap", 20, "hall", "den", 4)
    house.lend("cap", 30, 40)
    house.hand("bow", 20, "den", "hall", 1)
    house.lend("bow", 5, 5)
    house.bar("silk", "iron")
    house.show("may", 100, 110, 3, ["cap", "bow"])
    return house


def state(house):
    """All that a house keeps."""
    names = [thing[0] for thing in house.things()]
    return (
        house.places(), house.things(), [house.papers(name) for name in names], [house.loans(name) for name in names],
        house.bars(), house.shows(), house.prices(), house.upcoming(),
    )


def depth(house):
    """How often a house can be undone and done again; asked of a twin."""
    counts = []
    for word in ("undo", "redo"):
        twin = house.twin()
        count = 0
        try:
            while True:
                getattr(twin, word)()
                count += 1
        except HouseError:
            counts.append(count)
    return tuple(counts)


def answers(house, days):
    """All that can be asked of a house, and its lists, for these days."""
    found = [state(house), house.blamed()]
    for name in [thing[0] for thing in house.things()]:
        found += [house.story(name), house.stays(name), house.changes(name), house.doubted(name), house.unsaid(name)]
        found += [(house.where(name, day), house.light(name, day)) for day in days]
    for name, word in house.places():
        for day in days:
            found += [house.contents(name, day), house.common(name, day), house.clashes(name, day)]
    found += [house.plan(day) for day in days]
    return found


def some_deed(source):
    """A deed with what is handed in, of a few names, so that many are refused and many are not."""
    day = source.randint(0, 25)
    place, other = source.choice(PLACES), source.choice(PLACES)
    thing = source.choice(show_reference.NAMES[:5])
    low = source.randint(0, 100)
    grade = source.randint(0, 9)
    things = [source.choice(show_reference.NAMES[:5]) for turn in range(source.randint(0, 3))]
    show = source.choice(show_reference.SHOW_NAMES)
    kinds = (source.choice(KINDS), source.choice(KINDS))
    deeds = [
        ("place", place, source.choice(WORDS + ["cold"])),
        ("thing", thing, kinds[0], low, source.randint(max(0, low - 9), 100), source.randint(0, 20), day, place, grade),
        ("hand", thing, day, place, other, grade), ("hand", thing, day + 5, place, other, grade),
        ("lend", thing, day, day + source.randint(-1, 4)), ("strike", source.randint(1, 30)),
        ("bar",) + kinds, ("unbar",) + kinds, ("show", show, day, day + source.randint(0, 6), source.randint(1, 4), things),
        ("close", show), ("reprice", source.randint(1, 10), source.randint(1, 9)),
    ]
    return source.choice(deeds)


def do(house, deed):
    """Whether the deed was done."""
    try:
        getattr(house, deed[0])(*deed[1:])
    except HouseError:
        return False
    return True


def some_house(seed, many):
    """A house after so many deeds were tried."""
    source = random.Random(seed)
    house = House()
    for name in PLACES[:5]:
        house.place(name, source.choice(WORDS))
    for turn in range(many):
        do(house, some_deed(source))
    return house


def full_house():
    """As much of everything as there may be; the next number is 61."""
    house = House()
    names = letters(12)
    for at, name in enumerate(names):
        house.place(name, WORDS[at % 4])
    for at, name in enumerate(names):
        house.thing(name, KINDS[at % 3], 0, 100, 10 ** 6, 0, names[at], at % 10)
    for turn in range(30):
        name = names[turn % 12]
        house.hand(name, 1 + turn, names[turn % 5], names[(turn + 1) % 5], turn % 10)
        house.lend(name, 10 * turn, 10 * turn + 9)
    for kind in letters(20):
        house.bar("silk", kind)
    for at, name in enumerate(letters(8)):
        house.show(name, at, at + 29, 12, names)
    return house
