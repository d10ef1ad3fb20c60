"""Point [1] and the head of the interface, for every function that is there."""

import copy
import inspect
import unittest

from tests.houses import depth, small_house, state
from tests.reference import HOME, PAPERS
from vitrine import cases, rows, shows, stays, tales
from vitrine.errors import HouseError
from vitrine.house import House

ARGUMENTS = (
    (tales.cost, "home papers prices story"),
    (tales.told_story, "home papers prices"),
    (tales.gaps, "home papers story"),
    (tales.table, "home papers prices"),
    (tales.holds, "home papers prices bound rows"),
    (stays.where, "home papers prices day"),
    (stays.stays, "home papers prices"),
    (stays.changes, "home papers prices"),
    (cases.common, "ranges"),
    (cases.settings, "ranges"),
    (cases.clashes, "things bars"),
    (shows.filled, "shows lights leaves"),
    (shows.good_dealing, "shows lights leaves dealing:rows"),
    (shows.shown_full, "shows lights leaves dealing:rows pairs"),
    (rows.house_rows, "house"),
    (rows.read_house, "lines:rows"),
)

DEEDS = {
    "place": "name word", "thing": "name kind low high limit day home grade", "strike": "number", "bar": "one other",
    "unbar": "one other", "show": "name first last size things", "close": "name", "reprice": "doubt gap",
    "undo": "", "redo": "", "hand": "thing day here there grade", "lend": "thing first last",
}
LISTS = {
    "places": "", "things": "", "papers": "thing", "loans": "thing", "bars": "", "shows": "", "prices": "", "upcoming": "",
}
QUESTIONS = {
    "story": "thing", "where": "thing day", "stays": "thing", "changes": "thing", "doubted": "thing", "unsaid": "thing",
    "light": "thing day", "contents": "place day", "common": "place day", "clashes": "place day", "blamed": "",
    "plan": "day", "twin": "",
}

RANGES = [(60, 90), (10, 50), (40, 70), (0, 5)]
THINGS = [("fan", "silk", 0, 9), ("bow", "iron", 20, 30), ("arm", "wood", 9, 20)]
BARS = [("silk", "iron"), ("wood", "wood")]
ROWS = [(4, 0), (0, 1), (2, 1), (9, 1), (1, 1)]

HANDED = {
    "home": HOME, "papers": PAPERS, "prices": (9, 1), "story": [1, 2], "bound": 1, "rows": ROWS, "day": 35,
    "ranges": RANGES, "things": THINGS, "bars": BARS,
    "shows": [("may", 2, 3, 2, ("cap", "bow")), ("april", 1, 2, 1, ("cap", "fan"))],
    "lights": {"cap": 1, "bow": 5, "fan": 5}, "leaves": {"bow": [(2, 2)], "cap": []},
    "dealing": [(1, "april", ["fan"]), (2, "april", ["fan"]), (2, "may", ["cap"]), (3, "may", ["bow"])],
    "pairs": [(2, "may"), (3, "may")],
    "lines": ["price 2 3", "place hall lit", "thing cap silk 1 2 3 4 hall 5", "show may 1 1 1 cap", "next 7"],
}

# What is asked of a small house.
ASKED = {"thing": "cap", "place": "den", "day": 20}


def names_of(words):
    """The arguments' names; a word ahead of a colon says only what is handed in."""
    return [word.split(":")[-1] for word in words.split()]


def handed_in(words):
    """What is handed in, made anew."""
    found = []
    for word in words.split():
        word = word.split(":")[0]
        found.append(small_house() if word == "house" else copy.deepcopy(HANDED[word]))
    return found


def calls():
    """Each function with what it is handed, made anew."""
    for function, words in ARGUMENTS:
        yield function, handed_in(words)


def questions():
    """Each question, and each list, with what is asked."""
    for name, words in {**LISTS, **QUESTIONS}.items():
        yield name, [ASKED[word] for word in words.split()]


def lists_in(found):
    """The lists that an answer is or holds, the outer ones first."""
    if not isinstance(found, (list, tuple)):
        return []
    inner = [part for held in found for part in lists_in(held)]
    return [found] + inner if isinstance(found, list) else inner


def plain(found):
    """An answer in a form that can be compared: a house as all that it keeps."""
    return (state(found), depth(found)) if isinstance(found, House) else copy.deepcopy(found)


class Interface(unittest.TestCase):
    def test_arguments_are_there_under_their_names(self):
        for function, words in ARGUMENTS:
            with self.subTest(function.__name__):
                self.assertEqual(list(inspect.signature(function).parameters), names_of(words))

    def test_arguments_may_be_handed_in_by_name(self):
        for function, words in ARGUMENTS:
            with self.subTest(function.__name__):
                named = dict(zip(names_of(words), handed_in(words)))
                self.assertEqual(plain(function(**named)), plain(function(*named.values())))

    def test_a_house_has_its_deeds_lists_and_questions(self):
        self.assertEqual(list(inspect.signature(House).parameters), [])
        for name, words in {**DEEDS, **LISTS, **QUESTIONS}.items():
            with self.subTest(name):
                self.assertEqual(list(inspect.signature(getattr(House(), name)).parameters), words.split())

    def test_kinds_of_what_a_house_tells(self):
        kinds = {
            "prices": tuple, "upcoming": int, "where": str, "light": int, "common": tuple, "plan": tuple, "twin": House,
        }
        for name, asked in questions():
            with self.subTest(name):
                self.assertIs(type(getattr(small_house(), name)(*asked)), kinds.get(name, list))


class NothingChangedOrKept(unittest.TestCase):
    def test_what_is_handed_in_is_as_it_was(self):
        for function, handed in calls():
            with self.subTest(function.__name__):
                before = [plain(part) for part in handed]
                function(*handed)
                self.assertEqual([plain(part) for part in handed], before)

    def test_what_is_handed_in_is_as_it_was_behind_a_refusal(self):
        for function, handed in ((tales.cost, [HOME, PAPERS[:], (1, 1), [9, 1]]),
                                 (tales.gaps, [HOME, PAPERS[:], [9, 0]])):
            before = copy.deepcopy(handed)
            self.assertRaises(ValueError, function, *handed)
            self.assertEqual(handed, before)

    def test_a_told_list_that_is_changed_changes_no_later_answer(self):
        for function, handed in calls():
            with self.subTest(function.__name__):
                first = function(*handed)
                expected = plain(first)
                for part in lists_in(first):
                    part.append("more")
                    part[0] = "other"
                self.assertEqual(plain(function(*handed)), expected)

    def test_each_told_list_is_a_new_one(self):
        for function, handed in calls():
            with self.subTest(function.__name__):
                mine = [part for part in handed if isinstance(part, list)]
                first, second = lists_in(function(*handed)), lists_in(function(*handed))
                for at, part in enumerate(first):
                    others = mine + second + first[at + 1:]
                    self.assertFalse([other for other in others if other is part])

    def test_empty_lists_are_new_ones_too(self):
        empties = (
            (tales.told_story, (HOME, [], (1, 1))), (tales.gaps, (HOME, [], [])),
            (stays.changes, (HOME, [], (1, 1))), (cases.settings, ([],)), (cases.clashes, ([], [])),
            (shows.filled, ([], {}, {})), (House().places, ()), (House().blamed, ()), (House().shows, ()),
        )
        for function, handed in empties:
            with self.subTest(function.__name__):
                for part in lists_in(function(*handed)):
                    self.assertEqual(part, [])
                    part.append(1)
                for part in lists_in(function(*handed)):
                    self.assertEqual(part, [])

    def test_what_was_handed_in_is_not_kept(self):
        papers = [(1, 20, "hall", "shop", 3)]
        self.assertEqual(tales.told_story(HOME, papers, (1, 1)), [1])
        self.assertEqual(stays.where(HOME, papers, (1, 1), 25), "shop")
        papers.append((2, 24, "shop", "den", 3))
        self.assertEqual(tales.told_story(HOME, papers, (1, 1)), [1, 2])
        self.assertEqual(stays.where(HOME, papers, (1, 1), 25), "den")
        ranges = [(1, 5)]
        self.assertEqual(cases.common(ranges), ("all", 1, 5))
        ranges[0] = (2, 3)
        self.assertEqual(cases.common(ranges), ("all", 2, 3))
        self.assertEqual(cases.settings(ranges)[1], [0])

    def test_a_show_does_not_keep_the_list_of_its_things(self):
        house = small_house()
        things = ["cap", "bow"]
        house.show("june", 1, 1, 1, things)
        self.assertEqual(things, ["cap", "bow"])
        things.clear()
        self.assertEqual(house.shows()[0], ("june", 1, 1, 1, ("cap", "bow")))
        things = ["cap", "fan"]
        self.assertRaises(HouseError, house.show, "july", 1, 1, 1, things)
        self.assertEqual(things, ["cap", "fan"])

    def test_lists_of_a_house_that_are_changed_change_no_later_answer(self):
        house = small_house()
        house.reprice(9, 1)
        house.hand("cap", 30, "shop", "hall", 1)
        before = (state(house), depth(house))
        for name, asked in questions():
            with self.subTest(name):
                first = getattr(house, name)(*asked)
                expected = plain(first)
                for part in lists_in(first):
                    part.append("more")
                    part[0] = "other"
                self.assertEqual(plain(getattr(house, name)(*asked)), expected)
        self.assertEqual((state(house), depth(house)), before)

    def test_lights_and_leaves_are_not_kept(self):
        lights, leaves = {"cap": 1}, {"cap": []}
        told = shows.filled([("may", 1, 1, 1, ("cap",))], lights, leaves)
        lights["cap"] = 0
        leaves["cap"].append((1, 1))
        self.assertEqual(told[0], [(1, "may", ["cap"])])
        self.assertEqual(shows.filled([("may", 1, 1, 1, ("cap",))], {"cap": 1}, {"cap": []})[0], told[0])

    def test_the_same_again(self):
        for function, handed in calls():
            self.assertEqual(plain(function(*handed)), plain(function(*handed)))

    def test_an_earlier_answer_stays_as_it_was(self):
        papers = [(1, 20, "hall", "shop", 3)]
        story, told = tales.told_story(HOME, papers, (1, 1)), stays.stays(HOME, papers, (1, 1))
        papers.clear()
        tales.told_story(HOME, papers, (1, 1))
        self.assertEqual(story, [1])
        self.assertEqual(told, [(10, 19, "hall"), (20, None, "shop")])


class BeyondTheBounds(unittest.TestCase):
    """What lies somewhat beyond a bound of the points is refused nowhere, and means what it says."""

    def test_more_than_sixty_papers(self):
        papers = [(at, 10 + at, "hall", "hall", 2) for at in range(1, 76)]
        numbers = [paper[0] for paper in papers]
        self.assertEqual(tales.told_story(HOME, papers, (1, 1)), numbers)
        self.assertEqual(tales.cost(HOME, papers, (1, 1), numbers[:70]), 5)
        self.assertTrue(tales.holds(HOME, papers, (1, 1), 0, tales.table(HOME, papers, (1, 1))))
        self.assertEqual(stays.stays(HOME, papers, (1, 1)), [(10, None, "hall")])

    def test_prices_beyond_nine_and_of_nought(self):
        papers = [(1, 20, "den", "den", 2), (2, 30, "den", "den", 2)]
        self.assertEqual(tales.cost(HOME, papers, (12, 30), [2]), 42)
        self.assertEqual(tales.told_story(HOME, papers, (16, 30)), [1, 2])
        self.assertEqual(tales.told_story(HOME, papers, (12, 30)), [])
        self.assertEqual(tales.told_story(HOME, papers, (0, 3)), [])
        self.assertEqual(tales.told_story(HOME, papers, (3, 0)), [1, 2])

    def test_days_grades_and_names_beyond_theirs(self):
        home = (-5, "hall", 12)
        papers = [(100, 10 ** 9 + 7, "hall", "avestibule", 15)]
        self.assertEqual(stays.stays(home, papers, (1, 1)), [
            (-5, 10 ** 9 + 6, "hall"), (10 ** 9 + 7, None, "avestibule"),
        ])
        self.assertEqual(stays.changes(home, papers, (1, 1)), [("hall", -5, 10 ** 9 + 7, 3)])
        self.assertEqual(stays.where(home, papers, (1, 1), -5), "hall")

    def test_more_than_forty_ranges(self):
        ranges = [(2 * at, 2 * at + 1) for at in range(45)]
        self.assertEqual(cases.common(ranges), ("never", 0, 1))
        self.assertEqual(cases.settings(ranges)[1], list(range(45)))
        self.assertEqual(cases.common([(at, 100 - at) for at in range(45)]), ("all", 44, 56))

    def test_dampnesses_beyond_a_hundred(self):
        self.assertEqual(cases.common([(90, 99), (101, 110)]), ("never", 0, 1))
        self.assertEqual(cases.settings([(90, 99), (101, 110)])[1], [0, 1])
        self.assertEqual(cases.clashes([("b", "silk", 0, 90), ("a", "silk", 101, 105)], []), [("a", "b", "damp")])


if __name__ == "__main__":
    unittest.main()
