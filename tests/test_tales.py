"""Points [2], [3], [4]: stories, what they cost, their gaps, and tables."""

import itertools
import random
import unittest

from tests import reference
from tests.reference import HOME, PAPERS
from vitrine import errors
from vitrine.tales import cost, gaps, holds, table, told_story

# Of the days 20, 30, 40, 50 that PAPERS has, these are their numbers.
RISING = [1, 9, 2, 4]


class CostAndGaps(unittest.TestCase):
    def test_no_papers_at_all(self):
        self.assertEqual(cost(HOME, [], (3, 5), []), 0)
        self.assertEqual(gaps(HOME, [], []), [])

    def test_the_empty_story_doubts_all(self):
        self.assertEqual(cost(HOME, PAPERS, (3, 5), []), 12)
        self.assertEqual(gaps(HOME, PAPERS, []), [])

    def test_a_story_without_gaps(self):
        self.assertEqual(cost(HOME, PAPERS, (3, 5), [1, 9, 4]), 3)
        self.assertEqual(gaps(HOME, PAPERS, [1, 9, 4]), [])

    def test_a_gap_behind_the_home_has_the_number_nought(self):
        self.assertEqual(gaps(HOME, PAPERS, [9]), [(0, 9, "hall", "shop")])
        self.assertEqual(cost(HOME, PAPERS, (3, 5), [9]), 9 + 5)

    def test_gaps_between_papers_in_order_of_days(self):
        self.assertEqual(gaps(HOME, PAPERS, RISING), [(9, 2, "attic", "cellar"), (2, 4, "barn", "attic")])
        self.assertEqual(cost(HOME, PAPERS, (3, 5), RISING), 10)

    def test_all_gaps(self):
        self.assertEqual(gaps(HOME, PAPERS, [2, 4]), [(0, 2, "hall", "cellar"), (2, 4, "barn", "attic")])
        self.assertEqual(cost(HOME, PAPERS, (3, 5), [2, 4]), 6 + 10)

    def test_a_paper_that_saw_it_makes_a_gap_only_by_its_place(self):
        papers = [(1, 11, "hall", "hall", 2), (2, 12, "shop", "shop", 2), (3, 13, "shop", "shop", 2)]
        self.assertEqual(gaps(HOME, papers, [1, 2, 3]), [(1, 2, "hall", "shop")])
        self.assertEqual(cost(HOME, papers, (9, 1), [1, 2, 3]), 1)

    def test_the_prices_are_not_turned_about(self):
        self.assertEqual(cost(HOME, PAPERS, (1, 9), [9]), 3 + 9)
        self.assertEqual(cost(HOME, PAPERS, (9, 1), [9]), 27 + 1)

    def test_papers_in_any_order(self):
        for papers in itertools.permutations(PAPERS):
            for story in reference.all_stories(PAPERS):
                self.assertEqual(cost(HOME, list(papers), (3, 5), story), cost(HOME, PAPERS, (3, 5), story))
                self.assertEqual(gaps(HOME, list(papers), story), gaps(HOME, PAPERS, story))

    def test_all_stories_of_many_papers(self):
        for home, papers, prices in reference.some_cases(1, 60, 6):
            for story in reference.all_stories(papers):
                self.assertEqual(cost(home, papers, prices, story), reference.cost_of(home, papers, prices, story))
                self.assertEqual(gaps(home, papers, story), reference.gaps_of(home, papers, story))

    def test_numbers_may_fall_while_days_rise(self):
        papers = [(7, 11, "hall", "shop", 2), (3, 12, "shop", "hall", 2)]
        self.assertEqual(cost(HOME, papers, (1, 1), [7, 3]), 0)
        self.assertEqual(gaps(HOME, papers, [7, 3]), [])


class NoStories(unittest.TestCase):
    def refused(self, story, papers=PAPERS):
        with self.subTest(story):
            with self.assertRaises(errors.BadStory) as caught:
                cost(HOME, papers, (1, 1), story)
            self.assertIs(type(caught.exception), errors.BadStory)
            with self.assertRaises(errors.BadStory) as caught:
                gaps(HOME, papers, story)
            self.assertIs(type(caught.exception), errors.BadStory)

    def test_a_number_twice(self):
        for story in ([1, 1], [1, 9, 9, 4], [1, 9, 1], [4, 4], RISING + [4], [1] + RISING):
            self.refused(story)

    def test_nought(self):
        for story in ([0], [0, 1], [1, 0], [1, 0, 9], [4, 0]):
            self.refused(story)

    def test_a_number_of_no_paper(self):
        for story in ([3], [5], [-1], [-4], [10], [1, 3, 9], RISING + [11], [3] + RISING, [10 ** 12]):
            self.refused(story)

    def test_any_number_where_there_are_no_papers(self):
        for story in ([0], [1], [-1], [1, 2]):
            self.refused(story, [])

    def test_two_numbers_turned_about(self):
        for story in ([9, 1], [2, 9], [1, 2, 9], [1, 9, 4, 2], [4, 1], [1, 2, 4, 9]):
            self.refused(story)

    def test_of_all_lists_of_numbers_just_the_stories_are_taken(self):
        stories = [story for story in reference.all_stories(PAPERS)]
        for length in range(4):
            for numbers in itertools.product([0, 1, 2, 3, 4, 9], repeat=length):
                if list(numbers) not in stories:
                    self.refused(list(numbers))
                else:
                    cost(HOME, PAPERS, (1, 1), list(numbers))
                    gaps(HOME, PAPERS, list(numbers))

    def test_the_refusal_is_a_house_error_and_a_value_error_and_no_other(self):
        with self.assertRaises(ValueError) as caught:
            cost(HOME, PAPERS, (1, 1), [9, 1])
        self.assertIsInstance(caught.exception, errors.HouseError)
        for name in vars(errors):
            found = getattr(errors, name)
            if isinstance(found, type) and issubclass(found, errors.HouseError):
                expected = name in ("HouseError", "BadStory")
                self.assertEqual(isinstance(caught.exception, found), expected, name)


class ToldStory(unittest.TestCase):
    def check(self, home, papers, prices):
        self.assertEqual(told_story(home, papers, prices), reference.slow_story(home, papers, prices))

    def test_no_papers_at_all(self):
        self.assertEqual(told_story(HOME, [], (1, 1)), [])

    def test_papers_that_agree_are_all_believed(self):
        papers = [(2, 30, "shop", "barn", 3), (5, 20, "hall", "shop", 2), (1, 40, "barn", "barn", 3)]
        for prices in itertools.product(range(1, 10), repeat=2):
            self.assertEqual(told_story(HOME, papers, prices), [5, 2, 1])

    def test_an_ordinary_one(self):
        self.assertEqual(told_story(HOME, PAPERS, (1, 1)), [1, 9, 4])

    def test_a_dear_doubt_believes_and_a_dear_gap_doubts(self):
        self.assertEqual(told_story(HOME, PAPERS, (9, 1)), RISING)
        papers = [(1, 20, "shop", "shop", 2), (2, 30, "shop", "shop", 2)]
        self.assertEqual(told_story(HOME, papers, (2, 3)), [1, 2])
        self.assertEqual(told_story(HOME, papers, (1, 3)), [])

    def test_of_two_as_cheap_a_list_is_less_than_one_that_it_begins(self):
        papers = [(1, 20, "shop", "shop", 2)]
        self.assertEqual(told_story(HOME, papers, (4, 4)), [])
        self.assertEqual(told_story(HOME, papers, (5, 4)), [1])
        papers = [(1, 20, "hall", "hall", 2), (2, 30, "shop", "shop", 2)]
        self.assertEqual(told_story(HOME, papers, (4, 4)), [1])

    def test_of_several_as_cheap_the_earlier_day_is_less(self):
        papers = [(1, 20, "hall", "shop", 2), (2, 30, "hall", "barn", 2)]
        self.assertEqual(told_story(HOME, papers, (1, 9)), [1])
        papers = [(2, 20, "hall", "shop", 2), (1, 30, "hall", "barn", 2)]
        self.assertEqual(told_story(HOME, papers, (1, 9)), [2])

    def test_the_days_are_asked_and_not_the_count_of_gaps_or_of_papers(self):
        # One gap costs two doubts, so the days [20] and [20, 30, 40] are as cheap.
        papers = [(3, 20, "hall", "shop", 2), (2, 30, "barn", "den", 2), (1, 40, "den", "hall", 2)]
        self.assertEqual([cost(HOME, papers, (1, 2), story) for story in ([3], [3, 2, 1])], [2, 2])
        self.assertEqual(told_story(HOME, papers, (1, 2)), [3])
        # The days [20, 40] and [30] are as cheap; the longer list is the lesser one.
        papers = [(3, 20, "den", "shop", 2), (2, 30, "hall", "barn", 2), (1, 40, "shop", "hall", 2)]
        self.assertEqual([cost(HOME, papers, (1, 1), story) for story in ([3, 1], [2])], [2, 2])
        self.assertEqual(told_story(HOME, papers, (1, 1)), [3, 1])

    def test_papers_in_any_order_tell_the_same(self):
        for papers in itertools.permutations(PAPERS):
            self.assertEqual(told_story(HOME, list(papers), (1, 1)), [1, 9, 4])

    def test_grades_play_no_part(self):
        worn = [paper[:4] + (9 - paper[4],) for paper in PAPERS]
        self.assertEqual(told_story(HOME, worn, (1, 1)), [1, 9, 4])

    def test_all_prices(self):
        for home, papers, ignored in reference.some_cases(2, 4, 6):
            for prices in itertools.product(range(1, 10), repeat=2):
                self.check(home, papers, prices)

    def test_all_choices_of_a_few_papers(self):
        for home, papers, prices in reference.some_cases(3, 250, 7):
            self.check(home, papers, prices)
        for home, papers, ignored in reference.some_cases(4, 150, 7, width=2):
            self.check(home, papers, (1, 1))
            self.check(home, papers, (1, 2))
            self.check(home, papers, (2, 1))

    def test_nine_and_ten_papers(self):
        source = random.Random(5)
        for many in (8, 9, 10):
            self.check(*reference.some_case(source, many))

    def test_up_to_sixty_papers(self):
        source = random.Random(6)
        for many in (30, 45, 59, 60, 60, 60):
            for width in (2, 5):
                home, papers, prices = reference.some_case(source, many, width)
                for turn in (prices, (1, 1), (1, 9), (9, 1)):
                    story = told_story(home, papers, turn)
                    self.assertEqual(story, reference.quick_story(home, papers, turn))

    def test_sixty_papers_that_agree(self):
        names = ["a", "b", "c"]
        papers = [(1 + (7 * at) % 60, 11 + at, names[at % 3], names[(at + 1) % 3], 0) for at in range(60)]
        home = (10, "a", 0)
        story = [paper[0] for paper in papers]
        self.assertEqual(told_story(home, papers[::-1], (1, 9)), story)
        self.assertEqual(cost(home, papers, (1, 9), story), 0)


class Tables(unittest.TestCase):
    def test_no_papers_at_all(self):
        self.assertTrue(holds(HOME, [], (1, 1), 0, table(HOME, [], (1, 1))))
        self.assertFalse(holds(HOME, [], (1, 1), 1, table(HOME, [], (1, 1))))
        self.assertIs(holds(HOME, [], (1, 1), 0, [(0, 0)]), True)
        self.assertIs(holds(HOME, [], (1, 1), 0, []), False)
        self.assertIs(holds(HOME, [], (1, 1), 1, [(0, 1)]), False)
        self.assertIs(holds(HOME, [], (1, 1), -3, [(0, -3)]), True)
        self.assertIs(holds(HOME, [], (1, 1), -2, [(0, -3)]), False)

    def test_the_told_table_holds_for_the_told_cost_and_not_for_one_more(self):
        source = random.Random(7)
        cases = reference.some_cases(8, 120, 8) + [reference.some_case(source, 60) for turn in range(4)]
        for home, papers, prices in cases:
            rows = table(home, papers, prices)
            price = cost(home, papers, prices, told_story(home, papers, prices))
            self.assertIs(holds(home, papers, prices, price, rows), True)
            self.assertIs(holds(home, papers, prices, price + 1, rows), False)
            self.assertTrue(reference.table_holds(home, papers, prices, price, rows))

    def test_the_table_is_a_list_of_pairs_of_whole_numbers(self):
        rows = table(HOME, PAPERS, (2, 3))
        self.assertIs(type(rows), list)
        self.assertEqual(sorted(row[0] for row in rows), [0, 1, 2, 4, 9])
        for row in rows:
            self.assertIs(type(row), tuple)
            self.assertEqual([type(part) for part in row], [int, int])


class Holds(unittest.TestCase):
    # Papers 1 and 9 follow the home without a gap, paper 2 follows none of them.
    papers = [(9, 30, "shop", "hall", 5), (2, 40, "den", "den", 5), (1, 20, "hall", "shop", 5)]
    prices = (3, 5)
    good = [(0, 3), (1, 3), (9, 3), (2, 0)]

    def held(self, rows, bound=3):
        found = holds(HOME, self.papers, self.prices, bound, rows)
        self.assertIs(found, reference.table_holds(HOME, self.papers, self.prices, bound, rows))
        return found

    def changed(self, number, worth):
        return [(one, worth if one == number else old) for one, old in self.good]

    def test_a_good_one(self):
        self.assertTrue(self.held(self.good))

    def test_rows_in_any_order(self):
        for rows in itertools.permutations(self.good):
            self.assertTrue(self.held(list(rows)))

    def test_a_bound_above_the_worth_of_nought(self):
        self.assertTrue(self.held(self.good, 3))
        self.assertTrue(self.held(self.good, 2))
        self.assertTrue(self.held(self.good, -(10 ** 12)))
        self.assertFalse(self.held(self.good, 4))
        self.assertFalse(self.held(self.good, 10 ** 12))

    def test_a_pair_missing(self):
        for row in self.good:
            self.assertFalse(self.held([other for other in self.good if other != row], -100))
        self.assertFalse(self.held([], -100))

    def test_a_pair_twice(self):
        for row in self.good:
            self.assertFalse(self.held(self.good + [row], -100))
            self.assertFalse(self.held(self.good + [(row[0], row[1] - 1)], -100))
            self.assertFalse(self.held([(row[0], row[1] - 1)] + self.good, -100))

    def test_a_pair_of_a_strange_number(self):
        for number in (3, 4, 10, -1, 10 ** 9):
            self.assertFalse(self.held(self.good + [(number, -100)], -100))
            self.assertFalse(self.held([(number, 0)] + self.good, -100))
            self.assertFalse(self.held([(number, -100)] + self.good[1:], -100))
            self.assertFalse(self.held(self.good[:3] + [(number, 0)], -100))

    def test_one_missing_and_another_twice(self):
        self.assertFalse(self.held(self.good[:3] + [self.good[0]], -100))
        self.assertFalse(self.held(self.good[1:] + [self.good[3]], -100))

    def test_a_worth_too_great_by_one(self):
        for number, worth in self.good:
            self.assertFalse(self.held(self.changed(number, worth + 1), -100), number)

    def test_a_worth_may_be_less_where_none_ahead_leans_on_it(self):
        self.assertTrue(self.held(self.changed(0, 2), 2))
        self.assertTrue(self.held([(number, worth - 20) for number, worth in self.good], -17))
        self.assertFalse(self.held(self.changed(1, 2)))

    def test_a_worth_too_great_for_the_papers_behind_alone(self):
        # Three doubts cost 12, a gap and two doubts 9 + 8, so the count of papers behind is what binds.
        papers = [(at, 20 + at, "den", "barn", 0) for at in (1, 2, 3)]
        rows = [(0, 12), (1, 8), (2, 4), (3, 0)]
        self.assertTrue(holds(HOME, papers, (4, 9), 12, rows))
        for at in range(4):
            worse = [(row[0], row[1] + (1 if at == row[0] else 0)) for row in rows]
            self.assertFalse(holds(HOME, papers, (4, 9), 0, worse), at)

    def test_a_worth_too_great_by_a_step_alone(self):
        # The step to the last paper has no gap and goes past one doubted paper.
        papers = [(1, 20, "den", "den", 0), (2, 30, "hall", "hall", 0)]
        self.assertTrue(holds(HOME, papers, (4, 9), 4, [(0, 4), (1, 4), (2, 0)]))
        self.assertFalse(holds(HOME, papers, (4, 9), 4, [(0, 5), (1, 4), (2, 0)]))
        # Here the step has a gap and goes past none.
        papers = [(1, 20, "den", "den", 0), (2, 30, "den", "den", 0)]
        self.assertTrue(holds(HOME, papers, (9, 4), 4, [(0, 4), (1, 0), (2, 0)]))
        self.assertFalse(holds(HOME, papers, (9, 4), 4, [(0, 5), (1, 0), (2, 0)]))

    def test_papers_in_any_order(self):
        for papers in itertools.permutations(self.papers):
            self.assertTrue(holds(HOME, list(papers), self.prices, 3, self.good))
            self.assertFalse(holds(HOME, list(papers), self.prices, 4, self.good))

    def test_tables_near_the_told_one(self):
        source = random.Random(9)
        seen = {True: 0, False: 0}
        for home, papers, prices in reference.some_cases(10, 300, 5, width=2):
            for turn in range(4):
                rows = [(number, worth + source.choice([0, 0, 0, -1, 1])) for number, worth in
                        table(home, papers, prices)]
                source.shuffle(rows)
                bound = dict(rows)[0] + source.choice([-1, 0, 0, 0, 1])
                found = holds(home, papers, prices, bound, rows)
                self.assertIs(found, reference.table_holds(home, papers, prices, bound, rows))
                seen[found] += 1
        self.assertGreater(min(seen.values()), 100)

    def test_no_story_is_cheaper_than_a_bound_that_holds(self):
        for home, papers, prices in reference.some_cases(11, 40, 6):
            rows = [(number, worth - number) for number, worth in table(home, papers, prices)]
            bound = dict(rows)[0]
            if holds(home, papers, prices, bound, rows):
                for story in reference.all_stories(papers):
                    self.assertGreaterEqual(cost(home, papers, prices, story), bound)


if __name__ == "__main__":
    unittest.main()
