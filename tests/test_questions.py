"""Points [17], [18], and [2] to [10] within a house: what can be asked of one."""

import unittest

from tests import reference, show_reference
from tests.houses import PLACES, full_house, small_house, some_house, state
from vitrine import cases, stays, tales
from vitrine.errors import NoPlace, NoThing
from vitrine.house import House
from vitrine.shows import filled

ANY_DAYS = [-(10 ** 15), -1, 0, 1, 10 ** 9, 10 ** 9 + 1, 10 ** 15]
NO_NAMES = ["", "fan", "Cap", "two words", "abcdefghijk", "\u00e4"]


def tale_house():
    """One thing with papers at odds, told as in the tests of tales; den is the bench."""
    house = House()
    for name, word in (("hall", "lit"), ("attic", "dark"), ("shop", "out"), ("cellar", "lit"), ("barn", "lit"), ("den", "bench")):
        house.place(name, word)
    house.thing("cap", "silk", 10, 60, 100, 10, "hall", 2)
    house.hand("cap", 50, "attic", "hall", 5)
    house.hand("cap", 20, "hall", "shop", 2)
    house.hand("cap", 30, "shop", "attic", 6)
    house.hand("cap", 40, "cellar", "barn", 1)
    return house


def story_of(house, name):
    """The told story by the slow reference."""
    return reference.quick_story(home_of(house, name), house.papers(name), house.prices())


def home_of(house, name):
    return [thing[5] for thing in house.things() if thing[0] == name][0]


def slow_where(house, name, day):
    return reference.place_on(home_of(house, name), house.papers(name), story_of(house, name), day)


def slow_changes(house, name):
    return reference.changes_of(home_of(house, name), house.papers(name), story_of(house, name))


def many_houses():
    return [some_house(seed, 120) for seed in range(25)] + [full_house(), small_house(), tale_house(), House()]


def names_of(house):
    return [thing[0] for thing in house.things()]


class OfOneThing(unittest.TestCase):
    def test_a_tale(self):
        house = tale_house()
        self.assertEqual(house.story("cap"), [2, 3, 1])
        self.assertEqual(house.doubted("cap"), [4])
        self.assertEqual([house.where("cap", day) for day in (9, 10, 20, 30, 40, 50)], ["", "hall", "shop", "attic", "attic", "hall"])
        self.assertEqual(house.stays("cap"), [
            (10, 19, "hall"), (20, 29, "shop"), (30, 49, "attic"), (50, None, "hall"),
        ])
        self.assertEqual(house.changes("cap"), [("shop", 20, 30, 4), ("attic", 30, 50, -1)])

    def test_a_thing_without_papers(self):
        house = tale_house()
        house.thing("bow", "iron", 0, 9, 5, 7, "den", 3)
        self.assertEqual((house.story("bow"), house.doubted("bow"), house.changes("bow")), ([], [], []))
        self.assertEqual(house.stays("bow"), [(7, None, "den")])
        self.assertEqual((house.papers("bow"), house.loans("bow"), house.unsaid("bow")), ([], [], []))

    def test_by_the_houses_prices(self):
        house = tale_house()
        house.reprice(9, 1)
        self.assertEqual(house.story("cap"), [2, 3, 4, 1])
        self.assertEqual(house.doubted("cap"), [])
        self.assertEqual(house.where("cap", 35), "")
        self.assertEqual(house.where("cap", 40), "barn")
        house.reprice(1, 9)
        self.assertEqual(house.story("cap"), [2, 3, 1])
        house.undo()
        self.assertEqual(house.where("cap", 40), "barn")

    def test_a_paper_that_comes_late_or_goes(self):
        house = tale_house()
        number = house.hand("cap", 35, "attic", "cellar", 6)
        self.assertEqual(house.story("cap"), [2, 3, number, 4])
        self.assertEqual(house.doubted("cap"), [1])
        house.strike(number)
        self.assertEqual(house.story("cap"), [2, 3, 1])

    def test_doubted_is_told_by_rising_numbers(self):
        house = tale_house()
        house.hand("cap", 60, "shop", "shop", 1)
        house.hand("cap", 15, "den", "den", 1)
        self.assertEqual(house.doubted("cap"), [4, 5, 6])

    def test_as_the_functions_tell(self):
        for house in many_houses():
            for name in names_of(house):
                tale = (home_of(house, name), house.papers(name), house.prices())
                self.assertEqual(house.story(name), tales.told_story(*tale))
                self.assertEqual(house.stays(name), stays.stays(*tale))
                self.assertEqual(house.changes(name), stays.changes(*tale))

    def test_as_the_document_tells(self):
        for house in many_houses():
            for name in names_of(house):
                story = story_of(house, name)
                self.assertEqual(house.story(name), story)
                self.assertEqual(house.doubted(name), sorted({paper[0] for paper in house.papers(name)} - set(story)))
                self.assertEqual(house.changes(name), slow_changes(house, name))
                for day in range(-1, 40, 3):
                    self.assertEqual(house.where(name, day), slow_where(house, name, day))

    def test_loans_move_nothing(self):
        house = small_house()
        self.assertEqual(house.where("cap", 35), "den")
        house.strike(2)
        self.assertEqual(house.where("cap", 35), "den")


class Unsaid(unittest.TestCase):
    def worn(self, word, grade):
        house = House()
        house.place("hall", word)
        house.thing("cap", "silk", 0, 9, 5, 0, "hall", 5)
        house.hand("cap", 10, "hall", "hall", grade)
        return house

    def test_on_a_bench_nothing_is_unsaid(self):
        for word in ("lit", "dark", "out", "bench"):
            expected = [] if word == "bench" else [("hall", 0, 10, -2)]
            self.assertEqual(self.worn(word, 3).unsaid("cap"), expected)
            self.assertEqual(self.worn(word, 3).changes("cap"), [("hall", 0, 10, -2)])

    def test_what_wears_or_stays_is_not_unsaid(self):
        for word in ("lit", "bench"):
            self.assertEqual(self.worn(word, 7).unsaid("cap"), [])
            self.assertEqual(self.worn(word, 5).unsaid("cap"), [])

    def test_in_a_gap(self):
        house = self.worn("bench", 5)
        house.place("den", "bench")
        house.reprice(9, 1)
        house.hand("cap", 20, "den", "hall", 1)
        house.hand("cap", 30, "hall", "hall", 0)
        self.assertEqual(house.unsaid("cap"), [("", 10, 20, -4)])

    def test_in_order_of_days(self):
        house = self.worn("lit", 4)
        house.hand("cap", 5, "hall", "hall", 5)
        house.hand("cap", 30, "hall", "hall", 0)
        house.hand("cap", 20, "hall", "hall", 6)
        self.assertEqual(house.unsaid("cap"), [("hall", 5, 10, -1), ("hall", 20, 30, -6)])

    def test_many(self):
        told = 0
        for house in many_houses():
            words = dict(house.places())
            for name in names_of(house):
                expected = [change for change in slow_changes(house, name) if change[3] < 0 and words.get(change[0]) != "bench"]
                self.assertEqual(house.unsaid(name), expected)
                told += len(expected)
        self.assertGreater(told, 20)


class Light(unittest.TestCase):
    def test_one_stay(self):
        house = House()
        house.place("hall", "lit")
        house.thing("cap", "silk", 0, 9, 5, 10, "hall", 5)
        for day, expected in ((-5, 0), (0, 0), (9, 0), (10, 0), (11, 1), (12, 2), (10 ** 9, 10 ** 9 - 10), (10 ** 15, 10 ** 15 - 10)):
            self.assertEqual(house.light("cap", day), expected)

    def test_lit_places_alone(self):
        for word, expected in (("lit", 90), ("dark", 0), ("bench", 0), ("out", 0)):
            house = House()
            house.place("hall", word)
            house.thing("cap", "silk", 0, 9, 5, 10, "hall", 5)
            self.assertEqual(house.light("cap", 100), expected)

    def test_a_tale(self):
        house = tale_house()
        self.assertEqual([house.light("cap", day) for day in (10, 15, 20, 21, 50, 51, 60)], [0, 5, 10, 10, 10, 11, 20])
        house.reprice(9, 1)
        self.assertEqual([house.light("cap", day) for day in (40, 41, 42, 49, 50, 51)], [10, 11, 11, 11, 11, 12])

    def test_day_by_day(self):
        for house in many_houses():
            lit = [name for name, word in house.places() if word == "lit"]
            for name in names_of(house):
                days = 0
                for day in range(-2, 40):
                    self.assertEqual(house.light(name, day), days)
                    days += slow_where(house, name, day) in lit


class Cases(unittest.TestCase):
    def test_contents(self):
        house = small_house()
        told = [(day, house.contents("hall", day), house.contents("den", day)) for day in (-1, 0, 9, 10, 19, 20, 21)]
        self.assertEqual(told, [
            (-1, [], []), (0, [], ["bow"]), (9, [], ["bow"]), (10, ["cap"], ["bow"]), (19, ["cap"], ["bow"]),
            (20, ["bow"], ["cap"]), (21, ["bow"], ["cap"]),
        ])
        self.assertEqual(house.contents("shop", 20), [])

    def test_things_in_order_of_names(self):
        house = House()
        house.place("hall", "lit")
        for at, name in enumerate(["fan", "bow", "arm", "cap"]):
            house.thing(name, "silk", 20 * at, 20 * at + 25, 0, 0, "hall", 0)
        self.assertEqual(house.contents("hall", 0), ["arm", "bow", "cap", "fan"])
        # arm (40, 65), bow (20, 45), cap (60, 85), fan (0, 25).
        self.assertEqual(house.common("hall", 0), ("never", 0, 3))
        self.assertEqual(house.clashes("hall", 0), [
            ("arm", "fan", "damp"), ("bow", "cap", "damp"), ("cap", "fan", "damp"),
        ])

    def test_nothing_there(self):
        house = small_house()
        self.assertEqual(house.common("shop", 20), ("all", 0, 100))
        self.assertEqual(house.clashes("shop", 20), [])

    def test_one_thing_there(self):
        house = small_house()
        self.assertEqual(house.common("hall", 19), ("all", 10, 60))
        self.assertEqual(house.clashes("hall", 19), [])

    def test_bars_of_the_house(self):
        house = small_house()
        house.hand("bow", 10, "den", "hall", 0)
        self.assertEqual(house.contents("hall", 15), ["bow", "cap"])
        self.assertEqual(house.common("hall", 15), ("all", 50, 60))
        self.assertEqual(house.clashes("hall", 15), [("bow", "cap", "kind")])
        house.unbar("iron", "silk")
        self.assertEqual(house.clashes("hall", 15), [])
        house.bar("silk", "silk")
        self.assertEqual(house.clashes("hall", 15), [])

    def test_many(self):
        for house in many_houses():
            for place in [name for name, word in house.places()]:
                for day in (0, 7, 14, 21, 35):
                    inside = [thing for thing in house.things() if slow_where(house, thing[0], day) == place]
                    self.assertEqual(house.contents(place, day), [thing[0] for thing in inside])
                    self.assertEqual(house.common(place, day), cases.common([thing[2:4] for thing in inside]))
                    self.assertEqual(house.clashes(place, day), cases.clashes([thing[:4] for thing in inside], house.bars()))

    def test_where_it_is_unknown_no_place_has_it(self):
        house = small_house()
        house.reprice(9, 1)
        house.hand("cap", 30, "shop", "hall", 4)
        self.assertEqual(house.where("cap", 25), "")
        self.assertEqual([house.contents(place, 25) for place in ("den", "hall", "shop")], [[], ["bow"], []])


class Blamed(unittest.TestCase):
    def test_nothing(self):
        self.assertEqual(House().blamed(), [])
        house = House()
        house.place("hall", "lit")
        house.thing("cap", "silk", 0, 9, 5, 0, "hall", 5)
        house.hand("cap", 10, "hall", "hall", 5)
        house.hand("cap", 20, "hall", "hall", 2)
        self.assertEqual(house.blamed(), [])

    def test_summed_up_over_things(self):
        self.assertEqual(small_house().blamed(), [("den", 1), ("hall", 2)])
        house = small_house()
        house.hand("bow", 30, "hall", "hall", 9)
        house.hand("bow", 40, "hall", "hall", 0)
        house.hand("bow", 50, "hall", "den", 4)
        self.assertEqual(house.blamed(), [("den", 1), ("hall", 2 + 8 + 4)])

    def test_the_empty_text_too(self):
        house = small_house()
        house.reprice(9, 1)
        house.hand("cap", 30, "shop", "hall", 9)
        self.assertEqual(house.blamed(), [("", 5), ("den", 1), ("hall", 2)])

    def test_a_change_for_the_better_takes_nothing_off(self):
        house = small_house()
        house.hand("cap", 30, "den", "den", 1)
        house.hand("cap", 40, "den", "den", 3)
        self.assertEqual(house.blamed(), [("den", 3), ("hall", 2)])

    def test_many(self):
        for house in many_houses():
            sums = {}
            for name in names_of(house):
                for place, first, last, by in slow_changes(house, name):
                    if by > 0:
                        sums[place] = sums.get(place, 0) + by
            self.assertEqual(house.blamed(), sorted(sums.items()))


class Plan(unittest.TestCase):
    def check(self, house, day):
        """The plan shows itself full, by what the document makes of the house."""
        shows = [(name, max(first, day), last, size, things) for name, first, last, size, things in house.shows() if day <= last]
        lights = {thing[0]: max(0, thing[4] - house.light(thing[0], day)) for thing in house.things()}
        leaves = {name: [loan[1:] for loan in house.loans(name)] for name in lights}
        found = house.plan(day)
        self.assertIs(type(found), tuple)
        self.assertTrue(show_reference.is_shown_full(shows, lights, leaves, *found))
        return found

    def test_no_shows(self):
        self.assertEqual(House().plan(0), ([], []))
        house = small_house()
        house.close("may")
        self.assertEqual(house.plan(0), ([], []))

    def test_shows_days_from_that_day_on(self):
        house = small_house()
        for day, days in (
            (-5, range(100, 111)), (0, range(100, 111)), (100, range(100, 111)), (101, range(101, 111)), (110, range(110, 111)),
            (111, []), (10 ** 12, []), (-(10 ** 12), range(100, 111)),
        ):
            rows, pairs = self.check(house, day)
            self.assertEqual([row[:2] for row in rows], [(one, "may") for one in days])

    def test_limits_less_the_light_so_far(self):
        house = House()
        house.place("hall", "lit")
        house.thing("cap", "silk", 0, 9, 8, 10, "hall", 5)
        house.show("may", 0, 29, 1, ["cap"])
        counts = {day: show_reference.names_in_all(self.check(house, day)[0]) for day in (0, 10, 11, 15, 17, 18, 19, 29)}
        self.assertEqual(counts, {0: 8, 10: 8, 11: 7, 15: 3, 17: 1, 18: 0, 19: 0, 29: 0})

    def test_limits_at_their_bounds(self):
        for limit, expected in ((0, 0), (1, 1), (30, 30), (10 ** 6, 30)):
            house = House()
            house.place("hall", "dark")
            house.thing("cap", "silk", 0, 9, limit, 10, "hall", 5)
            house.show("may", 0, 29, 1, ["cap"])
            self.assertEqual(show_reference.names_in_all(self.check(house, 0)[0]), expected)

    def test_loans_are_leaves(self):
        house = House()
        house.place("hall", "dark")
        house.thing("cap", "silk", 0, 9, 100, 10, "hall", 5)
        house.show("may", 0, 9, 1, ["cap"])
        house.lend("cap", 2, 3)
        house.lend("cap", 9, 500)
        self.assertEqual([row[0] for row in self.check(house, 0)[0] if row[2]], [0, 1, 4, 5, 6, 7, 8])
        house.strike(1)
        self.assertEqual([row[0] for row in self.check(house, 3)[0] if row[2]], [3, 4, 5, 6, 7, 8])

    def test_a_loan_of_another_thing_is_no_leave(self):
        house = House()
        house.place("hall", "dark")
        for name in ("cap", "bow"):
            house.thing(name, "silk", 0, 9, 100, 10, "hall", 5)
        house.show("may", 0, 0, 2, ["cap", "bow"])
        house.lend("cap", 0, 0)
        self.assertEqual(house.plan(0)[0], [(0, "may", ["bow"])])

    def test_in_order_of_days_and_then_of_names(self):
        house = small_house()
        house.show("april", 99, 101, 1, ["cap"])
        rows, pairs = self.check(house, 100)
        self.assertEqual([row[:2] for row in rows][:4], [(100, "april"), (100, "may"), (101, "april"), (101, "may")])

    def test_a_full_house(self):
        house = full_house()
        for day in (-1, 0, 5, 29, 30, 36, 37, 10 ** 9):
            self.check(house, day)

    def test_many(self):
        names = 0
        for house in many_houses():
            for day in (-3, 0, 8, 16, 24, 50):
                found = self.check(house, day)
                names += show_reference.names_in_all(found[0])
        self.assertGreater(names, 100)

    def test_as_full_as_filled_tells(self):
        house = small_house()
        rows, pairs = house.plan(105)
        lights = {"cap": 90, "bow": 0}
        shows = [("may", 105, 110, 3, ("cap", "bow"))]
        self.assertEqual(house.light("cap", 105), 10)
        self.assertEqual(show_reference.names_in_all(rows), show_reference.names_in_all(filled(shows, lights, {})[0]))


class NamesThatAreNotThere(unittest.TestCase):
    def test_no_thing(self):
        for house in (House(), small_house()):
            for name in NO_NAMES + ["hall", "may"]:
                for word in ("papers", "loans", "story", "stays", "changes", "doubted", "unsaid"):
                    with self.subTest(word, name=name):
                        self.assertRaises(NoThing, getattr(house, word), name)
                for word in ("where", "light"):
                    for day in ANY_DAYS:
                        self.assertRaises(NoThing, getattr(house, word), name, day)

    def test_no_place(self):
        for house in (House(), small_house()):
            for name in NO_NAMES + ["cap", "may", "attic"]:
                for word in ("contents", "common", "clashes"):
                    for day in ANY_DAYS:
                        with self.subTest(word, name=name, day=day):
                            self.assertRaises(NoPlace, getattr(house, word), name, day)

    def test_an_undone_name_is_not_there(self):
        house = House()
        house.place("hall", "lit")
        house.thing("cap", "silk", 0, 9, 8, 10, "hall", 5)
        house.undo()
        self.assertRaises(NoThing, house.story, "cap")
        house.undo()
        self.assertRaises(NoPlace, house.contents, "hall", 0)
        house.redo()
        self.assertEqual(house.contents("hall", 10), [])
        house.redo()
        self.assertEqual(house.contents("hall", 10), ["cap"])

    def test_any_day(self):
        house = small_house()
        before = state(house)
        for day in ANY_DAYS:
            self.assertEqual(house.where("cap", day), slow_where(house, "cap", day))
            self.assertIsInstance(house.light("cap", day), int)
            for place in ("hall", "den", "shop"):
                self.assertIsInstance(house.contents(place, day), list)
                self.assertEqual(house.common(place, day)[0], "all")
                self.assertEqual(house.clashes(place, day), [])
            self.assertEqual(len(house.plan(day)), 2)
        self.assertEqual(state(house), before)


class Enough(unittest.TestCase):
    def test_the_houses_that_are_tried_have_much_in_them(self):
        houses = many_houses()
        self.assertGreater(sum(len(house.doubted(name)) for house in houses for name in names_of(house)), 50)
        self.assertTrue(any(house.where(name, 12) == "" for house in houses for name in names_of(house)))
        self.assertTrue(all(set(dict(house.places())) <= set(PLACES) for house in houses[:25]))


if __name__ == "__main__":
    unittest.main()
