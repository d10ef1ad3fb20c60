"""A house: its places, things, papers, loans, bars and shows, and what follows from them."""

from vitrine.bounds import MOST_BARS, MOST_PAPERS, MOST_PLACES, MOST_SHOWS, MOST_THINGS
from vitrine.bounds import check_damps, check_day, check_days, check_grade, check_kind, check_limit, check_name
from vitrine.bounds import check_price, check_room, check_show_days, check_size, check_word
from vitrine.cases import clashes, common
from vitrine.errors import Clash, NoBar, NoPaper, NoPlace, NoShow, NoThing, Taken, TooSoon, Twice
from vitrine.ledger import Ledger
from vitrine.shows import filled
from vitrine.stays import changes, stays, where
from vitrine.tales import DAY, told_story

# The parts of the ledger. Of a part that has one value alone it stands under the empty name.
PLACE = "place"
THING = "thing"
PAPER = "paper"
LOAN = "loan"
BAR = "bar"
SHOW = "show"
PRICES = "prices"
UPCOMING = "upcoming"
ONLY = ""

LIT = "lit"
BENCH = "bench"


def bar_name(one, other):
    """The name under which two kinds are barred, the same in either order."""
    return (min(one, other), max(one, other))


class House:
    """A house; empty at first."""

    def __init__(self):
        self.ledger = Ledger({(PRICES, ONLY): (1, 1), (UPCOMING, ONLY): 1})

    # What is there, and what is refused where it is not.

    def check_free(self, part, name):
        """Refuses a name that is taken in that part."""
        if self.ledger.value_of(part, name) is not None:
            raise Taken(f"there is a {part} {name}")

    def check_place(self, name):
        """Refuses a name that no place has."""
        if self.ledger.value_of(PLACE, name) is None:
            raise NoPlace(f"there is no place {name!r}")

    def check_thing(self, name):
        """Refuses a name that no thing has."""
        if self.ledger.value_of(THING, name) is None:
            raise NoThing(f"there is no thing {name!r}")

    def check_papers_room(self):
        """Refuses one more paper or loan where the house is full of them."""
        check_room(len(self.ledger.entries(PAPER)) + len(self.ledger.entries(LOAN)), MOST_PAPERS)

    def home_of(self, thing):
        """The thing's home; NoThing where there is no such thing."""
        self.check_thing(thing)
        kind, low, high, limit, home = self.ledger.value_of(THING, thing)
        return home

    # Deeds.

    def place(self, name, word):
        """A place comes to be."""
        check_name(name)
        self.check_free(PLACE, name)
        check_word(word)
        check_room(len(self.places()), MOST_PLACES)
        self.ledger.enter({(PLACE, name): word})

    def thing(self, name, kind, low, high, limit, day, home, grade):
        """A thing is taken in."""
        check_name(name)
        self.check_free(THING, name)
        check_kind(kind)
        check_damps(low, high)
        check_limit(limit)
        check_day(day)
        self.check_place(home)
        check_grade(grade)
        check_room(len(self.things()), MOST_THINGS)
        self.ledger.enter({(THING, name): (kind, low, high, limit, (day, home, grade))})

    def hand(self, thing, day, here, there, grade):
        """A paper comes; its number is told."""
        self.check_thing(thing)
        check_day(day)
        self.check_place(here)
        self.check_place(there)
        check_grade(grade)
        if day <= self.home_of(thing)[0]:
            raise TooSoon(f"{day} is not later than the home's day")
        if any([paper[DAY] == day for paper in self.papers(thing)]):
            raise Clash(f"there is a paper of {thing} on {day}")
        self.check_papers_room()
        number = self.upcoming()
        paper = (number, day, here, there, grade)
        self.ledger.enter({(PAPER, number): (thing, paper), (UPCOMING, ONLY): number + 1})
        return number

    def lend(self, thing, first, last):
        """A thing is lent away; the loan's number is told."""
        self.check_thing(thing)
        check_days(first, last)
        if any([begin <= last and first <= end for number, begin, end in self.loans(thing)]):
            raise Clash(f"{thing} is lent on one of the days {first} to {last}")
        self.check_papers_room()
        number = self.upcoming()
        self.ledger.enter({(LOAN, number): (thing, (number, first, last)), (UPCOMING, ONLY): number + 1})
        return number

    def strike(self, number):
        """A paper or a loan is taken out."""
        for part in (PAPER, LOAN):
            if self.ledger.value_of(part, number) is not None:
                self.ledger.enter({(part, number): None})
                return
        raise NoPaper(f"there is no paper and no loan {number}")

    def bar(self, one, other):
        """Two kinds may not lie in one case from here on."""
        check_kind(one)
        check_kind(other)
        name = bar_name(one, other)
        self.check_free(BAR, name)
        check_room(len(self.bars()), MOST_BARS)
        self.ledger.enter({(BAR, name): True})

    def unbar(self, one, other):
        """Two kinds may lie in one case again."""
        name = bar_name(one, other)
        if self.ledger.value_of(BAR, name) is None:
            raise NoBar(f"{one!r} and {other!r} are not barred")
        self.ledger.enter({(BAR, name): None})

    def show(self, name, first, last, size, things):
        """A show is planned."""
        check_name(name)
        self.check_free(SHOW, name)
        check_show_days(first, last)
        check_size(size)
        for thing in things:
            self.check_thing(thing)
        if len(set(things)) < len(things):
            raise Twice("a thing is named twice")
        check_room(len(self.shows()), MOST_SHOWS)
        self.ledger.enter({(SHOW, name): (first, last, size, tuple(things))})

    def close(self, name):
        """A show is given up."""
        if self.ledger.value_of(SHOW, name) is None:
            raise NoShow(f"there is no show {name!r}")
        self.ledger.enter({(SHOW, name): None})

    def reprice(self, doubt, gap):
        """Doubts and gaps cost something else from here on."""
        check_price(doubt)
        check_price(gap)
        self.ledger.enter({(PRICES, ONLY): (doubt, gap)})

    # No deeds: back and forth, and what reading rows needs.

    def undo(self):
        """Takes back the last deed."""
        self.ledger.undo()

    def redo(self):
        """Does again what was undone last."""
        self.ledger.redo()

    def skip_to(self, number):
        """The next paper or loan has this number, which none may have had."""
        if number < self.upcoming():
            raise Taken(f"the next number is {self.upcoming()} already")
        self.ledger.write((UPCOMING, ONLY), number)

    def forget(self):
        """Nothing can be undone or done again from here on."""
        self.ledger.forget()

    def twin(self):
        """Another house that is as this one is."""
        other = House()
        other.ledger = self.ledger.twin()
        return other

    # Lists.

    def places(self):
        """The pairs (name, word)."""
        return self.ledger.entries(PLACE)

    def things(self):
        """The tuples (name, kind, low, high, limit, home)."""
        return [
            (name, kind, low, high, limit, home)
            for name, (kind, low, high, limit, home) in self.ledger.entries(THING)
        ]

    def papers(self, thing):
        """The thing's papers, by rising numbers."""
        self.check_thing(thing)
        return [paper for number, (name, paper) in self.ledger.entries(PAPER) if name == thing]

    def loans(self, thing):
        """The thing's loans as tuples (number, first, last), by rising numbers."""
        self.check_thing(thing)
        return [loan for number, (name, loan) in self.ledger.entries(LOAN) if name == thing]

    def bars(self):
        """The pairs of kinds that are barred, the lesser first."""
        return [name for name, barred in self.ledger.entries(BAR)]

    def shows(self):
        """The shows as tuples (name, first, last, size, things)."""
        return [
            (name, first, last, size, things)
            for name, (first, last, size, things) in self.ledger.entries(SHOW)
        ]

    def prices(self):
        """The pair (doubt, gap)."""
        return self.ledger.value_of(PRICES, ONLY)

    def upcoming(self):
        """The next number."""
        return self.ledger.value_of(UPCOMING, ONLY)

    # Questions about one thing.

    def story(self, thing):
        """The told story."""
        return told_story(self.home_of(thing), self.papers(thing), self.prices())

    def where(self, thing, day):
        """The place where the thing is on the day, or the empty text."""
        return where(self.home_of(thing), self.papers(thing), self.prices(), day)

    def stays(self, thing):
        """The thing's stays."""
        return stays(self.home_of(thing), self.papers(thing), self.prices())

    def changes(self, thing):
        """The changes of the thing's grade."""
        return changes(self.home_of(thing), self.papers(thing), self.prices())

    def doubted(self, thing):
        """The numbers of its papers that are not believed, rising."""
        believed = self.story(thing)
        return [paper[0] for paper in self.papers(thing) if paper[0] not in believed]

    def unsaid(self, thing):
        """Its changes for the better where no bench was."""
        return [
            (place, first, last, by)
            for place, first, last, by in self.changes(thing)
            if by < 0 and self.ledger.value_of(PLACE, place) != BENCH
        ]

    def light(self, thing, day):
        """The number of days ahead of that day on which the thing is in a lit place."""
        days = 0
        for first, last, place in self.stays(thing):
            end = day if last is None else min(day, last + 1)
            if self.ledger.value_of(PLACE, place) == LIT:
                days += max(0, end - first)
        return days

    # Questions about places, and about all.

    def contents(self, place, day):
        """The names of the things that the place has on that day."""
        self.check_place(place)
        return [thing[0] for thing in self.things() if self.where(thing[0], day) == place]

    def things_in(self, place, day):
        """The things that the place has on that day, as tuples (name, kind, low, high)."""
        names = self.contents(place, day)
        return [(name, kind, low, high) for name, kind, low, high, limit, home in self.things() if name in names]

    def common(self, place, day):
        """What the ranges of the things there have in common."""
        return common([(low, high) for name, kind, low, high in self.things_in(place, day)])

    def clashes(self, place, day):
        """The ways in which two of the things there clash."""
        return clashes(self.things_in(place, day), self.bars())

    def blamed(self):
        """The pairs (place, sum) of how much things wore there."""
        sums = {}
        for thing in self.things():
            for place, first, last, by in self.changes(thing[0]):
                if by > 0:
                    sums[place] = sums.get(place, 0) + by
        return sorted(sums.items())

    def plan(self, day):
        """How the shows are filled from that day on, as filled tells it."""
        rest = [
            (name, max(first, day), last, size, things)
            for name, first, last, size, things in self.shows()
            if last >= day
        ]
        lights = {thing[0]: max(0, thing[4] - self.light(thing[0], day)) for thing in self.things()}
        leaves = {name: [(first, last) for number, first, last in self.loans(name)] for name in lights}
        return filled(rest, lights, leaves)
