"""Points [5], [6], [7]: where a thing was, its stays, and how it wore."""

import random
import unittest

from tests import reference
from tests.reference import HOME, PAPERS
from vitrine.stays import changes, stays, where
from vitrine.tales import told_story

ONE = (1, 1)

# All three are believed at these prices, with a gap between the first two.
GAPPED = [(3, 40, "den", "barn", 4), (1, 20, "hall", "shop", 2), (2, 30, "attic", "den", 1)]
DEAR_DOUBT = (9, 1)


class Where(unittest.TestCase):
    def check(self, home, papers, prices, expected):
        for day, place in expected:
            with self.subTest(day):
                found = where(home, papers, prices, day)
                self.assertEqual(found, place)
                self.assertIs(type(found), str)

    def test_no_papers_at_all(self):
        self.check(HOME, [], ONE, [
            (-(10 ** 12), ""), (-1, ""), (0, ""), (9, ""), (10, "hall"), (11, "hall"),
            (10 ** 9, "hall"), (10 ** 9 + 1, "hall"), (10 ** 12, "hall"),
        ])

    def test_a_home_on_day_nought(self):
        self.check((0, "hall", 0), [], ONE, [(-1, ""), (0, "hall"), (1, "hall")])

    def test_around_the_days_of_believed_papers(self):
        self.check(HOME, PAPERS, ONE, [
            (9, ""), (10, "hall"), (11, "hall"), (19, "hall"), (20, "shop"), (21, "shop"),
            (29, "shop"), (30, "attic"), (31, "attic"), (49, "attic"), (50, "hall"), (51, "hall"),
            (10 ** 9, "hall"), (10 ** 15, "hall"), (-(10 ** 15), ""),
        ])

    def test_a_doubted_paper_moves_nothing(self):
        self.check(HOME, PAPERS, ONE, [(39, "attic"), (40, "attic"), (41, "attic")])

    def test_days_within_a_gap(self):
        self.assertEqual(told_story(HOME, GAPPED, DEAR_DOUBT), [1, 2, 3])
        self.check(HOME, GAPPED, DEAR_DOUBT, [
            (19, "hall"), (20, "shop"), (21, ""), (25, ""), (29, ""), (30, "den"), (31, "den"), (40, "barn"),
        ])

    def test_a_gap_behind_the_home(self):
        self.check(HOME, [(1, 13, "den", "shop", 2)], DEAR_DOUBT, [
            (9, ""), (10, "hall"), (11, ""), (12, ""), (13, "shop"), (14, "shop"),
        ])

    def test_a_gap_without_days(self):
        self.check(HOME, [(1, 11, "den", "shop", 2)], DEAR_DOUBT, [
            (9, ""), (10, "hall"), (11, "shop"), (12, "shop"),
        ])

    def test_a_gap_of_one_day(self):
        self.check(HOME, [(1, 12, "den", "shop", 2)], DEAR_DOUBT, [
            (10, "hall"), (11, ""), (12, "shop"), (13, "shop"),
        ])

    def test_the_last_days_there_are(self):
        papers = [(1, 10 ** 9, "hall", "shop", 2)]
        self.check(HOME, papers, ONE, [(10 ** 9 - 1, "hall"), (10 ** 9, "shop"), (10 ** 9 + 1, "shop")])

    def test_each_day_of_many_cases(self):
        for home, papers, prices in reference.some_cases(21, 150, 7):
            story = reference.slow_story(home, papers, prices)
            for day in range(home[0] - 2, home[0] + 20):
                self.assertEqual(where(home, papers, prices, day), reference.place_on(home, papers, story, day))


class Stays(unittest.TestCase):
    def test_no_papers_at_all(self):
        self.assertEqual(stays(HOME, [], ONE), [(10, None, "hall")])

    def test_an_ordinary_one(self):
        self.assertEqual(stays(HOME, PAPERS, ONE), [
            (10, 19, "hall"), (20, 29, "shop"), (30, 49, "attic"), (50, None, "hall"),
        ])

    def test_a_gap_is_a_stay_of_its_own(self):
        self.assertEqual(stays(HOME, GAPPED, DEAR_DOUBT), [
            (10, 19, "hall"), (20, 20, "shop"), (21, 29, ""), (30, 39, "den"), (40, None, "barn"),
        ])

    def test_a_paper_by_which_it_stays_parts_none(self):
        papers = [(1, 20, "hall", "hall", 2), (2, 30, "hall", "hall", 3), (3, 40, "hall", "den", 3),
                  (4, 50, "den", "den", 3)]
        self.assertEqual(stays(HOME, papers, ONE), [(10, 39, "hall"), (40, None, "den")])
        self.assertEqual(stays(HOME, papers[:2], ONE), [(10, None, "hall")])

    def test_a_gap_without_days_is_no_stay(self):
        papers = [(1, 11, "den", "shop", 2)]
        self.assertEqual(stays(HOME, papers, DEAR_DOUBT), [(10, 10, "hall"), (11, None, "shop")])

    def test_a_gap_without_days_that_ends_where_it_began_parts_none(self):
        papers = [(1, 11, "den", "hall", 2), (2, 15, "hall", "shop", 2)]
        self.assertEqual(stays(HOME, papers, DEAR_DOUBT), [(10, 14, "hall"), (15, None, "shop")])
        self.assertEqual(stays(HOME, papers[:1], DEAR_DOUBT), [(10, None, "hall")])

    def test_a_gap_with_days_that_ends_where_it_began_parts(self):
        papers = [(1, 12, "den", "hall", 2)]
        self.assertEqual(stays(HOME, papers, DEAR_DOUBT), [(10, 10, "hall"), (11, 11, ""), (12, None, "hall")])

    def test_a_gap_with_a_stay_of_one_day_between_two(self):
        papers = [(1, 20, "den", "den", 2), (2, 30, "shop", "shop", 2)]
        self.assertEqual(stays(HOME, papers, DEAR_DOUBT), [
            (10, 10, "hall"), (11, 19, ""), (20, 20, "den"), (21, 29, ""), (30, None, "shop"),
        ])

    def test_a_stay_is_joined_up_to_a_gap(self):
        papers = [(1, 20, "hall", "hall", 2), (2, 30, "shop", "shop", 2)]
        self.assertEqual(stays(HOME, papers, DEAR_DOUBT), [
            (10, 20, "hall"), (21, 29, ""), (30, None, "shop"),
        ])

    def test_a_home_on_day_nought(self):
        self.assertEqual(stays((0, "hall", 0), [(1, 1, "hall", "den", 0)], ONE), [(0, 0, "hall"), (1, None, "den")])

    def test_they_are_tuples_of_whole_numbers_and_a_text(self):
        found = stays(HOME, GAPPED, DEAR_DOUBT)
        self.assertIs(type(found), list)
        for stay in found[:-1]:
            self.assertIs(type(stay), tuple)
            self.assertEqual([type(part) for part in stay], [int, int, str])
        self.assertIsNone(found[-1][1])

    def test_many_cases_day_by_day(self):
        for home, papers, prices in reference.some_cases(22, 200, 7):
            story = reference.slow_story(home, papers, prices)
            found = stays(home, papers, prices)
            self.assertEqual(found[0][0], home[0])
            self.assertIsNone(found[-1][1])
            for stay, following in zip(found, found[1:]):
                self.assertLessEqual(stay[0], stay[1])
                self.assertEqual(following[0], stay[1] + 1)
                self.assertNotEqual(following[2], stay[2])
            for first, last, place in found:
                for day in range(first, (first + 20 if last is None else last) + 1):
                    self.assertEqual(place, reference.place_on(home, papers, story, day))


class Changes(unittest.TestCase):
    def test_no_papers_at_all(self):
        self.assertEqual(changes(HOME, [], ONE), [])

    def test_up_and_the_same_and_a_doubted_one(self):
        # Paper 2 of grade 1 is doubted; 2 to 2 is no change, 2 to 6 is one, 6 to 5 another.
        self.assertEqual(changes(HOME, PAPERS, ONE), [("shop", 20, 30, 4), ("attic", 30, 50, -1)])

    def test_over_a_gap_the_place_is_empty(self):
        self.assertEqual(changes(HOME, GAPPED, DEAR_DOUBT), [("", 20, 30, -1), ("den", 30, 40, 3)])

    def test_over_a_gap_without_days_the_place_is_empty(self):
        self.assertEqual(changes(HOME, [(1, 11, "den", "hall", 5)], DEAR_DOUBT), [("", 10, 11, 3)])

    def test_from_the_home_on(self):
        self.assertEqual(changes(HOME, [(1, 12, "hall", "den", 9)], ONE), [("hall", 10, 12, 7)])
        self.assertEqual(changes(HOME, [(1, 12, "hall", "den", 0)], ONE), [("hall", 10, 12, -2)])
        self.assertEqual(changes(HOME, [(1, 12, "hall", "den", 2)], ONE), [])

    def test_the_greatest_changes(self):
        papers = [(2, 30, "hall", "hall", 0), (1, 20, "hall", "hall", 9)]
        self.assertEqual(changes((1, "hall", 0), papers, ONE), [("hall", 1, 20, 9), ("hall", 20, 30, -9)])

    def test_a_paper_of_the_same_grade_is_a_neighbour_all_the_same(self):
        papers = [(1, 20, "hall", "hall", 2), (2, 30, "hall", "den", 4)]
        self.assertEqual(changes(HOME, papers, ONE), [("hall", 20, 30, 2)])

    def test_two_changes_at_one_place_are_two(self):
        papers = [(1, 20, "hall", "hall", 3), (2, 30, "hall", "hall", 4)]
        self.assertEqual(changes(HOME, papers, ONE), [("hall", 10, 20, 1), ("hall", 20, 30, 1)])

    def test_they_are_tuples(self):
        found = changes(HOME, GAPPED, DEAR_DOUBT)
        self.assertIs(type(found), list)
        for change in found:
            self.assertIs(type(change), tuple)
            self.assertEqual([type(part) for part in change], [str, int, int, int])

    def test_many_cases(self):
        for home, papers, prices in reference.some_cases(23, 200, 7):
            story = reference.slow_story(home, papers, prices)
            self.assertEqual(changes(home, papers, prices), reference.changes_of(home, papers, story))


class ManyPapers(unittest.TestCase):
    def test_sixty(self):
        for home, papers, prices in [reference.some_case(random.Random(seed), 60) for seed in range(4)]:
            story = reference.quick_story(home, papers, prices)
            self.assertEqual(changes(home, papers, prices), reference.changes_of(home, papers, story))
            for first, last, place in stays(home, papers, prices):
                for day in (first, first if last is None else last):
                    self.assertEqual(place, reference.place_on(home, papers, story, day))
                    self.assertEqual(place, where(home, papers, prices, day))


if __name__ == "__main__":
    unittest.main()
