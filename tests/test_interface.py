"""Point [1] and the head of the interface, for every function that is there."""

import copy
import inspect
import unittest

from tests.reference import HOME, PAPERS
from vitrine import cases, stays, tales

ARGUMENTS = (
    (tales.cost, "home papers prices story"),
    (tales.told_story, "home papers prices"),
    (tales.gaps, "home papers story"),
    (tales.table, "home papers prices"),
    (tales.holds, "home papers prices bound rows"),
    (stays.where, "home papers prices day"),
    (stays.stays, "home papers prices"),
    (stays.changes, "home papers prices"),
    (cases.common, "ranges"),
    (cases.settings, "ranges"),
    (cases.clashes, "things bars"),
)

RANGES = [(60, 90), (10, 50), (40, 70), (0, 5)]
THINGS = [("fan", "silk", 0, 9), ("bow", "iron", 20, 30), ("arm", "wood", 9, 20)]
BARS = [("silk", "iron"), ("wood", "wood")]
ROWS = [(4, 0), (0, 1), (2, 1), (9, 1), (1, 1)]

HANDED = {
    "home": HOME, "papers": PAPERS, "prices": (9, 1), "story": [1, 2], "bound": 1, "rows": ROWS, "day": 35,
    "ranges": RANGES, "things": THINGS, "bars": BARS,
}


def calls():
    """Each function with what it is handed, made anew."""
    for function, words in ARGUMENTS:
        yield function, [copy.deepcopy(HANDED[word]) for word in words.split()]


def lists_in(found):
    """The lists that an answer is or holds."""
    if isinstance(found, list):
        return [found]
    return [part for part in found if isinstance(part, list)] if isinstance(found, tuple) else []


class Interface(unittest.TestCase):
    def test_arguments_are_there_under_their_names(self):
        for function, words in ARGUMENTS:
            with self.subTest(function.__name__):
                self.assertEqual(list(inspect.signature(function).parameters), words.split())

    def test_arguments_may_be_handed_in_by_name(self):
        for function, words in ARGUMENTS:
            with self.subTest(function.__name__):
                named = {word: copy.deepcopy(HANDED[word]) for word in words.split()}
                self.assertEqual(function(**named), function(*named.values()))


class NothingChangedOrKept(unittest.TestCase):
    def test_what_is_handed_in_is_as_it_was(self):
        for function, handed in calls():
            with self.subTest(function.__name__):
                before = copy.deepcopy(handed)
                function(*handed)
                self.assertEqual(handed, before)

    def test_what_is_handed_in_is_as_it_was_behind_a_refusal(self):
        for function, handed in ((tales.cost, [HOME, PAPERS[:], (1, 1), [9, 1]]),
                                 (tales.gaps, [HOME, PAPERS[:], [9, 0]])):
            before = copy.deepcopy(handed)
            self.assertRaises(ValueError, function, *handed)
            self.assertEqual(handed, before)

    def test_a_told_list_that_is_changed_changes_no_later_answer(self):
        for function, handed in calls():
            with self.subTest(function.__name__):
                first = function(*handed)
                expected = copy.deepcopy(first)
                for part in lists_in(first):
                    part.append("more")
                    part[0] = "other"
                self.assertEqual(function(*handed), expected)

    def test_each_told_list_is_a_new_one(self):
        for function, handed in calls():
            with self.subTest(function.__name__):
                mine = [part for part in handed if isinstance(part, list)]
                first, second = lists_in(function(*handed)), lists_in(function(*handed))
                for at, part in enumerate(first):
                    others = mine + second + first[at + 1:]
                    self.assertFalse([other for other in others if other is part])

    def test_empty_lists_are_new_ones_too(self):
        empties = (
            (tales.told_story, (HOME, [], (1, 1))), (tales.gaps, (HOME, [], [])),
            (stays.changes, (HOME, [], (1, 1))), (cases.settings, ([],)), (cases.clashes, ([], [])),
        )
        for function, handed in empties:
            with self.subTest(function.__name__):
                for part in lists_in(function(*handed)):
                    self.assertEqual(part, [])
                    part.append(1)
                for part in lists_in(function(*handed)):
                    self.assertEqual(part, [])

    def test_what_was_handed_in_is_not_kept(self):
        papers = [(1, 20, "hall", "shop", 3)]
        self.assertEqual(tales.told_story(HOME, papers, (1, 1)), [1])
        self.assertEqual(stays.where(HOME, papers, (1, 1), 25), "shop")
        papers.append((2, 24, "shop", "den", 3))
        self.assertEqual(tales.told_story(HOME, papers, (1, 1)), [1, 2])
        self.assertEqual(stays.where(HOME, papers, (1, 1), 25), "den")
        ranges = [(1, 5)]
        self.assertEqual(cases.common(ranges), ("all", 1, 5))
        ranges[0] = (2, 3)
        self.assertEqual(cases.common(ranges), ("all", 2, 3))
        self.assertEqual(cases.settings(ranges)[1], [0])

    def test_an_earlier_answer_stays_as_it_was(self):
        papers = [(1, 20, "hall", "shop", 3)]
        story, told = tales.told_story(HOME, papers, (1, 1)), stays.stays(HOME, papers, (1, 1))
        papers.clear()
        tales.told_story(HOME, papers, (1, 1))
        self.assertEqual(story, [1])
        self.assertEqual(told, [(10, 19, "hall"), (20, None, "shop")])


class BeyondTheBounds(unittest.TestCase):
    """What lies somewhat beyond a bound of the points is refused nowhere, and means what it says."""

    def test_more_than_sixty_papers(self):
        papers = [(at, 10 + at, "hall", "hall", 2) for at in range(1, 76)]
        numbers = [paper[0] for paper in papers]
        self.assertEqual(tales.told_story(HOME, papers, (1, 1)), numbers)
        self.assertEqual(tales.cost(HOME, papers, (1, 1), numbers[:70]), 5)
        self.assertTrue(tales.holds(HOME, papers, (1, 1), 0, tales.table(HOME, papers, (1, 1))))
        self.assertEqual(stays.stays(HOME, papers, (1, 1)), [(10, None, "hall")])

    def test_prices_beyond_nine_and_of_nought(self):
        papers = [(1, 20, "den", "den", 2), (2, 30, "den", "den", 2)]
        self.assertEqual(tales.cost(HOME, papers, (12, 30), [2]), 42)
        self.assertEqual(tales.told_story(HOME, papers, (16, 30)), [1, 2])
        self.assertEqual(tales.told_story(HOME, papers, (12, 30)), [])
        self.assertEqual(tales.told_story(HOME, papers, (0, 3)), [])
        self.assertEqual(tales.told_story(HOME, papers, (3, 0)), [1, 2])

    def test_days_grades_and_names_beyond_theirs(self):
        home = (-5, "hall", 12)
        papers = [(100, 10 ** 9 + 7, "hall", "avestibule", 15)]
        self.assertEqual(stays.stays(home, papers, (1, 1)), [
            (-5, 10 ** 9 + 6, "hall"), (10 ** 9 + 7, None, "avestibule"),
        ])
        self.assertEqual(stays.changes(home, papers, (1, 1)), [("hall", -5, 10 ** 9 + 7, 3)])
        self.assertEqual(stays.where(home, papers, (1, 1), -5), "hall")

    def test_more_than_forty_ranges(self):
        ranges = [(2 * at, 2 * at + 1) for at in range(45)]
        self.assertEqual(cases.common(ranges), ("never", 0, 1))
        self.assertEqual(cases.settings(ranges)[1], list(range(45)))
        self.assertEqual(cases.common([(at, 100 - at) for at in range(45)]), ("all", 44, 56))

    def test_dampnesses_beyond_a_hundred(self):
        self.assertEqual(cases.common([(90, 99), (101, 110)]), ("never", 0, 1))
        self.assertEqual(cases.settings([(90, 99), (101, 110)])[1], [0, 1])
        self.assertEqual(cases.clashes([("b", "silk", 0, 90), ("a", "silk", 101, 105)], []), [("a", "b", "damp")])


if __name__ == "__main__":
    unittest.main()
