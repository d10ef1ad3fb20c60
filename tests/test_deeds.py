"""Points [14], [15]: what a house has, its deeds, and what each is refused with, the first that is due."""

import itertools
import unittest

from tests.houses import depth, full_house, letters, small_house, state
from vitrine import errors
from vitrine.house import House

BAD_NAMES = ["", "Cap", "cAp", "caP", "abcdefghi", "a b", " a", "a ", "a1", "a_b", "a-b", "caf\u00e9", "\u00e4", "\u03b1", "`", "{", "a\n"]
DAY_ENDS = [-1, -(10 ** 9), 10 ** 9 + 1, 10 ** 12]

# For each deed: what it takes in a small house, and then its refusals in order, each with what brings it about.
DEEDS = {
    "place": (
        {"name": "attic", "word": "out"},
        [("BadName", {"name": "Attic"}), ("Taken", {"name": "hall"}), ("BadWord", {"word": "Lit"})],
    ),
    "thing": (
        {"name": "fan", "kind": "silk", "low": 0, "high": 9, "limit": 5, "day": 3, "home": "hall", "grade": 1},
        [
            ("BadName", {"name": "Fan"}), ("Taken", {"name": "cap"}), ("BadKind", {"kind": ""}),
            ("BadRange", {"low": 10}), ("BadLimit", {"limit": -1}), ("BadDay", {"day": -1}),
            ("NoPlace", {"home": "attic"}), ("BadGrade", {"grade": 10}),
        ],
    ),
    "hand": (
        {"thing": "cap", "day": 50, "here": "den", "there": "hall", "grade": 5},
        [
            ("NoThing", {"thing": "fan"}), ("BadDay", {"day": -1}), ("NoPlace", {"here": "attic"}),
            ("NoPlace", {"there": "attic"}), ("BadGrade", {"grade": -1}), ("TooSoon", {"day": 10}),
            ("Clash", {"day": 20}),
        ],
    ),
    "lend": (
        {"thing": "cap", "first": 50, "last": 60},
        [
            ("NoThing", {"thing": "fan"}), ("BadDay", {"first": -1}), ("BadDay", {"last": 10 ** 9 + 1}),
            ("BadRange", {"last": 39}), ("Clash", {"first": 40}),
        ],
    ),
    "strike": ({"number": 1}, [("NoPaper", {"number": 5})]),
    "bar": (
        {"one": "wood", "other": "silk"},
        [("BadKind", {"one": "Wood"}), ("BadKind", {"other": ""}), ("Taken", {"one": "iron"})],
    ),
    "unbar": ({"one": "iron", "other": "silk"}, [("NoBar", {"one": "wood"})]),
    "show": (
        {"name": "june", "first": 1, "last": 9, "size": 2, "things": ["cap"]},
        [
            ("BadName", {"name": "June"}), ("Taken", {"name": "may"}), ("BadDay", {"first": -1}),
            ("BadDay", {"last": 10 ** 9 + 1}), ("BadRange", {"last": 0}), ("BadRange", {"last": 31}),
            ("BadCount", {"size": 0}), ("NoThing", {"things": ["cap", "fan", "cap"]}), ("Twice", {"things": ["cap", "cap"]}),
        ],
    ),
    "close": ({"name": "may"}, [("NoShow", {"name": "june"})]),
    "reprice": ({"doubt": 3, "gap": 4}, [("BadPrice", {"doubt": 0}), ("BadPrice", {"gap": 10})]),
}

# In a full house: the same deeds, without the names that are taken there.
FULL_DEEDS = {
    "place": {"name": "attic", "word": "out"},
    "thing": {"name": "fan", "kind": "silk", "low": 0, "high": 9, "limit": 5, "day": 3, "home": "naa", "grade": 1},
    "hand": {"thing": "naa", "day": 500, "here": "naa", "there": "nab", "grade": 5},
    "lend": {"thing": "naa", "first": 500, "last": 600},
    "bar": {"one": "wood", "other": "iron"},
    "show": {"name": "june", "first": 1, "last": 9, "size": 2, "things": ["naa"]},
}
FULL_FAULTS = {
    "place": [("BadName", {"name": ""}), ("Taken", {"name": "naa"}), ("BadWord", {"word": ""})],
    "thing": [
        ("BadName", {"name": ""}), ("Taken", {"name": "naa"}), ("BadKind", {"kind": ""}), ("BadRange", {"high": 101}),
        ("BadLimit", {"limit": -1}), ("BadDay", {"day": -1}), ("NoPlace", {"home": "x"}), ("BadGrade", {"grade": -1}),
    ],
    "hand": [
        ("NoThing", {"thing": "x"}), ("BadDay", {"day": -1}), ("NoPlace", {"here": "x"}), ("NoPlace", {"there": "x"}),
        ("BadGrade", {"grade": -1}), ("TooSoon", {"day": 0}), ("Clash", {"day": 1}),
    ],
    "lend": [
        ("NoThing", {"thing": "x"}), ("BadDay", {"first": -1}), ("BadRange", {"last": 499}), ("Clash", {"first": 9}),
    ],
    "bar": [("BadKind", {"one": ""}), ("Taken", {"one": "naa", "other": "silk"})],
    "show": [
        ("BadName", {"name": ""}), ("Taken", {"name": "naa"}), ("BadDay", {"first": -1}), ("BadRange", {"last": 0}),
        ("BadCount", {"size": 13}), ("NoThing", {"things": ["x"]}), ("Twice", {"things": ["naa", "naa"]}),
    ],
}


class Refusals(unittest.TestCase):
    def refused(self, house, word, handed, name):
        """The deed is refused with this very class, and nothing is changed."""
        before, deep = state(house), depth(house)
        with self.subTest(deed=word, handed=handed):
            with self.assertRaises(errors.HouseError) as caught:
                getattr(house, word)(**handed)
            self.assertIs(type(caught.exception), getattr(errors, name))
            self.assertEqual(state(house), before)
            self.assertEqual(depth(house), deep)

    def test_what_is_taken_is_done(self):
        for word, (good, faults) in DEEDS.items():
            house = small_house()
            before = state(house)
            found = getattr(house, word)(**good)
            self.assertEqual(found, 5 if word in ("hand", "lend") else None)
            self.assertNotEqual(state(house), before, word)

    def test_each_refusal(self):
        for word, (good, faults) in DEEDS.items():
            for name, fault in faults:
                self.refused(small_house(), word, {**good, **fault}, name)

    def test_the_first_that_is_due(self):
        for word, (good, faults) in DEEDS.items():
            for (name, fault), (later, other) in itertools.combinations(faults, 2):
                if not set(fault) & set(other):
                    self.refused(small_house(), word, {**good, **other, **fault}, name)

    def test_all_of_them_at_once(self):
        for word, (good, faults) in DEEDS.items():
            handed = dict(good)
            for name, fault in reversed(faults):
                handed.update(fault)
            self.refused(small_house(), word, handed, faults[0][0])

    def test_a_full_house(self):
        house = full_house()
        for word, good in FULL_DEEDS.items():
            self.refused(house, word, good, "Full")

    def test_full_is_due_last(self):
        house = full_house()
        for word, faults in FULL_FAULTS.items():
            for name, fault in faults:
                self.refused(house, word, {**FULL_DEEDS[word], **fault}, name)

    def test_a_full_house_takes_the_other_deeds(self):
        house = full_house()
        house.strike(60)
        self.assertEqual(house.hand("naa", 500, "naa", "nab", 5), 61)
        self.refused(house, "lend", FULL_DEEDS["lend"], "Full")
        house.strike(61)
        self.assertEqual(house.lend("naa", 500, 600), 62)
        self.refused(house, "hand", FULL_DEEDS["hand"], "Full")
        house.unbar("naa", "silk")
        house.bar("wood", "iron")
        self.refused(house, "bar", {"one": "wood", "other": "wood"}, "Full")
        house.close("naa")
        house.show("june", 1, 1, 1, [])
        self.refused(house, "show", {"name": "july", "first": 1, "last": 1, "size": 1, "things": []}, "Full")
        house.reprice(9, 9)


class Bounds(unittest.TestCase):
    """The bounds themselves, and one beyond."""

    def each(self, word, key, good_values, bad_values, error):
        good, faults = DEEDS[word]
        for value in good_values:
            with self.subTest(word, good=value):
                getattr(small_house(), word)(**{**good, key: value})
        for value in bad_values:
            with self.subTest(word, bad=value):
                with self.assertRaises(error):
                    getattr(small_house(), word)(**{**good, key: value})

    def test_names(self):
        good = ["a", "z", "abcdefgh", "zzzzzzzz", "lit", "next"]
        for word in ("place", "thing", "show"):
            self.each(word, "name", good, BAD_NAMES, errors.BadName)

    def test_kinds(self):
        good = ["a", "z", "abcdefgh"]
        self.each("thing", "kind", good, BAD_NAMES, errors.BadKind)
        self.each("bar", "one", good, BAD_NAMES, errors.BadKind)
        self.each("bar", "other", good, BAD_NAMES, errors.BadKind)

    def test_words(self):
        self.each("place", "word", ["lit", "dark", "bench", "out"], ["", "Lit", "lit ", "unlit", "li", "litdark"], errors.BadWord)

    def test_days(self):
        self.each("thing", "day", [0, 1, 10 ** 9], DAY_ENDS, errors.BadDay)
        self.each("hand", "day", [11, 10 ** 9], DAY_ENDS, errors.BadDay)
        self.each("lend", "first", [41, 60], DAY_ENDS, errors.BadDay)
        self.each("lend", "last", [50, 10 ** 9], DAY_ENDS, errors.BadDay)
        self.each("show", "first", [0, 9], DAY_ENDS, errors.BadDay)
        self.each("show", "last", [1, 30], DAY_ENDS, errors.BadDay)

    def test_ranges(self):
        good = DEEDS["thing"][0]
        for low, high in ((0, 0), (0, 100), (100, 100), (50, 50), (49, 50)):
            small_house().thing(**{**good, "low": low, "high": high})
        for low, high in ((1, 0), (-1, 5), (5, 101), (-1, 101), (101, 101), (-5, -3), (100, 99)):
            with self.subTest((low, high)), self.assertRaises(errors.BadRange):
                small_house().thing(**{**good, "low": low, "high": high})

    def test_limits_grades_sizes_prices(self):
        self.each("thing", "limit", [0, 1, 10 ** 6], [-1, 10 ** 6 + 1], errors.BadLimit)
        self.each("thing", "grade", range(10), [-1, 10], errors.BadGrade)
        self.each("hand", "grade", range(10), [-1, 10], errors.BadGrade)
        self.each("show", "size", range(1, 13), [-1, 0, 13], errors.BadCount)
        self.each("reprice", "doubt", range(1, 10), [-1, 0, 10], errors.BadPrice)
        self.each("reprice", "gap", range(1, 10), [-1, 0, 10], errors.BadPrice)

    def test_days_of_shows(self):
        for first, last in ((5, 5), (5, 34), (0, 29), (10 ** 9, 10 ** 9), (10 ** 9 - 29, 10 ** 9)):
            small_house().show("june", first, last, 1, [])
        for first, last in ((5, 4), (5, 35), (0, 30), (0, 10 ** 9), (10 ** 9 - 30, 10 ** 9)):
            with self.subTest((first, last)), self.assertRaises(errors.BadRange):
                small_house().show("june", first, last, 1, [])

    def test_how_many_there_may_be(self):
        house = House()
        for name in letters(12):
            house.place(name, "lit")
        self.assertRaises(errors.Full, house.place, "more", "lit")
        for name in letters(12):
            house.thing(name, "silk", 0, 0, 0, 0, "naa", 0)
        self.assertRaises(errors.Full, house.thing, "more", "silk", 0, 0, 0, 0, "naa", 0)
        for kind in letters(20):
            house.bar(kind, kind)
        self.assertRaises(errors.Full, house.bar, "more", "more")
        for name in letters(8):
            house.show(name, 0, 0, 1, [])
        self.assertRaises(errors.Full, house.show, "more", 0, 0, 1, [])
        for turn in range(60):
            self.assertEqual(house.hand("naa", 1 + turn, "naa", "naa", 0), 1 + turn)
        self.assertRaises(errors.Full, house.hand, "nab", 1, "naa", "naa", 0)
        self.assertRaises(errors.Full, house.lend, "nab", 1, 2)

    def test_sixty_loans(self):
        house = small_house()
        for turn in range(56):
            house.lend("bow", 100 + turn, 100 + turn)
        self.assertRaises(errors.Full, house.lend, "cap", 500, 500)
        self.assertRaises(errors.Full, house.hand, "cap", 500, "den", "den", 1)


class Deeds(unittest.TestCase):
    def test_an_empty_house(self):
        self.assertEqual(state(House()), ([], [], [], [], [], [], (1, 1), 1))

    def test_places(self):
        house = small_house()
        self.assertEqual(house.places(), [("den", "dark"), ("hall", "lit"), ("shop", "bench")])
        house.place("a", "out")
        self.assertEqual(house.places()[0], ("a", "out"))

    def test_things(self):
        self.assertEqual(small_house().things(), [
            ("bow", "iron", 50, 90, 0, (0, "den", 0)), ("cap", "silk", 10, 60, 100, (10, "hall", 2)),
        ])

    def test_one_name_for_a_place_a_thing_a_kind_and_a_show(self):
        house = House()
        house.place("cap", "lit")
        house.thing("cap", "cap", 0, 1, 2, 3, "cap", 4)
        house.show("cap", 1, 2, 3, ["cap"])
        house.bar("cap", "cap")
        self.assertEqual(house.things(), [("cap", "cap", 0, 1, 2, (3, "cap", 4))])
        self.assertEqual(house.shows(), [("cap", 1, 2, 3, ("cap",))])
        self.assertEqual(house.bars(), [("cap", "cap")])

    def test_papers_and_loans_by_rising_numbers(self):
        house = small_house()
        self.assertEqual(house.papers("cap"), [(1, 20, "hall", "den", 4)])
        self.assertEqual(house.loans("cap"), [(2, 30, 40)])
        self.assertEqual(house.papers("bow"), [(3, 20, "den", "hall", 1)])
        self.assertEqual(house.loans("bow"), [(4, 5, 5)])
        self.assertEqual(house.hand("cap", 15, "den", "den", 9), 5)
        self.assertEqual(house.lend("cap", 0, 29), 6)
        self.assertEqual(house.papers("cap"), [(1, 20, "hall", "den", 4), (5, 15, "den", "den", 9)])
        self.assertEqual(house.loans("cap"), [(2, 30, 40), (6, 0, 29)])
        self.assertEqual(house.upcoming(), 7)

    def test_numbers_stand_in_order_of_numbers(self):
        house = small_house()
        for turn in range(8):
            house.hand("cap", 100 - turn, "den", "den", 1)
        self.assertEqual([paper[0] for paper in house.papers("cap")], [1, 5, 6, 7, 8, 9, 10, 11, 12])

    def test_no_number_comes_again(self):
        house = small_house()
        house.strike(4)
        self.assertEqual(house.upcoming(), 5)
        self.assertEqual(house.hand("bow", 30, "den", "den", 0), 5)
        house.strike(5)
        self.assertEqual(house.lend("bow", 5, 5), 6)
        self.assertRaises(errors.NoPaper, house.strike, 4)
        self.assertRaises(errors.NoPaper, house.strike, 5)

    def test_what_is_refused_takes_no_number(self):
        house = small_house()
        self.assertRaises(errors.Clash, house.hand, "cap", 20, "hall", "den", 4)
        self.assertRaises(errors.Clash, house.lend, "cap", 30, 30)
        self.assertEqual(house.upcoming(), 5)

    def test_strike(self):
        house = small_house()
        house.strike(1)
        self.assertEqual(house.papers("cap"), [])
        self.assertEqual(house.loans("cap"), [(2, 30, 40)])
        house.strike(2)
        self.assertEqual(house.loans("cap"), [])
        for number in (0, -1, 1, 2, 5, 10 ** 12):
            self.assertRaises(errors.NoPaper, house.strike, number)
        self.assertEqual(house.hand("cap", 20, "hall", "den", 4), 5)
        self.assertEqual(house.lend("cap", 30, 40), 6)

    def test_days_of_papers(self):
        house = small_house()
        for day in (0, 9, 10):
            self.assertRaises(errors.TooSoon, house.hand, "cap", day, "hall", "hall", 0)
        house.hand("cap", 11, "hall", "hall", 0)
        self.assertRaises(errors.Clash, house.hand, "cap", 11, "shop", "den", 1)
        house.hand("bow", 11, "hall", "hall", 0)
        house.hand("bow", 1, "hall", "hall", 0)

    def test_a_loan_and_a_paper_may_have_a_day_in_common(self):
        house = small_house()
        house.hand("cap", 30, "den", "hall", 0)
        house.lend("cap", 20, 20)

    def test_loans_that_have_days_in_common(self):
        for first, last in ((30, 40), (30, 30), (40, 40), (35, 36), (29, 30), (40, 41), (0, 10 ** 9), (29, 41)):
            with self.subTest((first, last)):
                self.assertRaises(errors.Clash, small_house().lend, "cap", first, last)
        for first, last in ((29, 29), (41, 41), (0, 29), (41, 10 ** 9)):
            small_house().lend("cap", first, last)
        small_house().lend("bow", 30, 40)

    def test_a_loan_may_begin_ahead_of_the_home(self):
        house = small_house()
        house.lend("cap", 0, 5)
        house.lend("cap", 9, 11)

    def test_bars(self):
        house = small_house()
        self.assertEqual(house.bars(), [("iron", "silk")])
        house.bar("wood", "iron")
        house.bar("b", "b")
        house.bar("a", "z")
        house.bar("iron", "iron")
        self.assertEqual(house.bars(), [("a", "z"), ("b", "b"), ("iron", "iron"), ("iron", "silk"), ("iron", "wood")])
        for one, other in (("iron", "silk"), ("silk", "iron"), ("b", "b"), ("z", "a")):
            self.assertRaises(errors.Taken, house.bar, one, other)
        house.unbar("silk", "iron")
        house.unbar("iron", "wood")
        house.unbar("b", "b")
        self.assertEqual(house.bars(), [("a", "z"), ("iron", "iron")])
        for one, other in (("iron", "silk"), ("b", "b"), ("", ""), ("a", "Z"), ("a", "a"), ("z", "z")):
            self.assertRaises(errors.NoBar, house.unbar, one, other)
        house.bar("iron", "silk")

    def test_shows(self):
        house = small_house()
        house.show("april", 7, 9, 1, [])
        self.assertEqual(house.shows(), [("april", 7, 9, 1, ()), ("may", 100, 110, 3, ("cap", "bow"))])
        house.close("may")
        self.assertEqual(house.shows(), [("april", 7, 9, 1, ())])
        for name in ("may", "", "April", "cap"):
            self.assertRaises(errors.NoShow, house.close, name)
        house.show("may", 1, 1, 1, ["bow", "cap"])
        self.assertEqual(house.shows()[1], ("may", 1, 1, 1, ("bow", "cap")))

    def test_things_of_a_show(self):
        house = small_house()
        for things in (["fan"], ["cap", "fan"], ["fan", "cap"], [""], ["Cap"], ["cap", "cap", "fan"], ["may"]):
            self.assertRaises(errors.NoThing, house.show, "june", 1, 1, 1, things)
        for things in (["cap", "cap"], ["cap", "bow", "cap"], ["bow", "cap", "cap"]):
            self.assertRaises(errors.Twice, house.show, "june", 1, 1, 1, things)

    def test_a_show_may_be_small_for_what_it_names(self):
        house = small_house()
        house.show("june", 1, 1, 1, ["cap", "bow"])
        house.show("july", 1, 1, 12, ["cap"])
        self.assertEqual(len(house.shows()), 3)

    def test_prices(self):
        house = small_house()
        house.reprice(9, 1)
        self.assertEqual(house.prices(), (9, 1))
        self.assertRaises(errors.BadPrice, house.reprice, 5, 0)
        self.assertEqual(house.prices(), (9, 1))

    def test_names_of_places_and_things_in_deeds_may_be_any_texts(self):
        house = small_house()
        for text in ("", "Hall", "two words", "\u00e4", "abcdefghijkl", "cap"):
            self.assertRaises(errors.NoPlace, house.thing, "fan", "silk", 0, 9, 1, 1, text, 0)
            self.assertRaises(errors.NoPlace, house.hand, "cap", 50, text, "hall", 0)
            self.assertRaises(errors.NoPlace, house.hand, "cap", 50, "hall", text, 0)
        for text in ("", "Cap", "two words", "hall"):
            self.assertRaises(errors.NoThing, house.hand, text, 50, "hall", "hall", 0)
            self.assertRaises(errors.NoThing, house.lend, text, 50, 50)


if __name__ == "__main__":
    unittest.main()
