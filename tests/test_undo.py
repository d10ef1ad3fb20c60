"""Point [16]: undoing and doing again, what changes nothing, and twins that go their own ways."""

import random
import unittest

from tests.houses import answers, depth, do, full_house, small_house, some_deed, state
from vitrine.errors import BadPrice, Clash, NoDeed, NoPaper
from vitrine.house import House

# One deed of each sort, each of which a small house takes.
ONE_OF_EACH = [
    ("place", "attic", "out"), ("thing", "fan", "silk", 0, 9, 5, 3, "hall", 1), ("hand", "cap", 50, "den", "hall", 5),
    ("lend", "cap", 50, 60), ("strike", 1), ("strike", 2), ("bar", "wood", "silk"), ("unbar", "silk", "iron"),
    ("show", "june", 1, 9, 2, ["cap"]), ("close", "may"), ("reprice", 3, 4),
]


class UndoAndRedo(unittest.TestCase):
    def test_nothing_to_undo_or_to_do_again(self):
        house = House()
        self.assertRaises(NoDeed, house.undo)
        self.assertRaises(NoDeed, house.redo)
        house.reprice(2, 2)
        self.assertRaises(NoDeed, house.redo)
        self.assertIsNone(house.undo())
        self.assertRaises(NoDeed, house.undo)
        self.assertEqual(house.prices(), (1, 1))
        self.assertIsNone(house.redo())
        self.assertRaises(NoDeed, house.redo)
        self.assertEqual(house.prices(), (2, 2))

    def test_each_sort_of_deed(self):
        for deed in ONE_OF_EACH:
            with self.subTest(deed[0]):
                house = small_house()
                before = answers(house, [0, 20, 105])
                self.assertTrue(do(house, deed))
                behind = answers(house, [0, 20, 105])
                self.assertNotEqual(before, behind)
                for turn in range(3):
                    house.undo()
                    self.assertEqual(answers(house, [0, 20, 105]), before)
                    house.redo()
                    self.assertEqual(answers(house, [0, 20, 105]), behind)

    def test_all_deeds_one_behind_the_other(self):
        house = small_house()
        told = [state(house)]
        for deed in ONE_OF_EACH:
            self.assertTrue(do(house, deed))
            told.append(state(house))
        for turn in range(2):
            for expected in told[-2::-1]:
                house.undo()
                self.assertEqual(state(house), expected)
            for expected in told[1:]:
                house.redo()
                self.assertEqual(state(house), expected)

    def test_down_to_the_empty_house(self):
        for house in (small_house(), full_house()):
            full = state(house)
            many = depth(house)[0]
            for turn in range(many):
                house.undo()
            self.assertEqual(state(house), state(House()))
            self.assertRaises(NoDeed, house.undo)
            for turn in range(many):
                house.redo()
            self.assertEqual(state(house), full)
            self.assertRaises(NoDeed, house.redo)

    def test_the_next_number_goes_back(self):
        house = small_house()
        self.assertEqual(house.hand("cap", 50, "den", "hall", 5), 5)
        house.undo()
        self.assertEqual(house.upcoming(), 5)
        self.assertEqual(house.lend("cap", 50, 60), 5)
        house.undo()
        house.redo()
        self.assertEqual(house.upcoming(), 6)
        self.assertEqual(house.loans("cap"), [(2, 30, 40), (5, 50, 60)])
        self.assertEqual(house.papers("cap"), [(1, 20, "hall", "den", 4)])

    def test_a_struck_paper_comes_back_with_its_number(self):
        house = small_house()
        house.strike(1)
        house.hand("cap", 20, "den", "den", 9)
        house.undo()
        house.undo()
        self.assertEqual(house.papers("cap"), [(1, 20, "hall", "den", 4)])
        self.assertRaises(Clash, house.hand, "cap", 20, "den", "den", 9)
        self.assertEqual(house.upcoming(), 5)

    def test_another_deed_ends_doing_again(self):
        for deed in ONE_OF_EACH:
            house = small_house()
            house.reprice(7, 7)
            house.undo()
            self.assertTrue(do(house, deed))
            self.assertRaises(NoDeed, house.redo)

    def test_a_deed_that_leaves_all_as_it_is(self):
        house = House()
        house.reprice(5, 5)
        house.reprice(2, 2)
        house.undo()
        house.reprice(5, 5)
        self.assertRaises(NoDeed, house.redo)
        house.undo()
        self.assertEqual(house.prices(), (5, 5))
        house.undo()
        self.assertEqual(house.prices(), (1, 1))
        self.assertRaises(NoDeed, house.undo)
        house.redo()
        house.redo()
        self.assertRaises(NoDeed, house.redo)

    def test_what_is_refused_leaves_doing_again(self):
        house = small_house()
        house.reprice(7, 7)
        house.undo()
        self.assertRaises(BadPrice, house.reprice, 0, 1)
        self.assertRaises(NoPaper, house.strike, 99)
        self.assertRaises(Clash, house.lend, "cap", 30, 30)
        house.redo()
        self.assertRaises(NoDeed, house.redo)
        self.assertEqual(house.prices(), (7, 7))

    def test_what_is_refused_is_not_undone(self):
        house = small_house()
        house.reprice(7, 7)
        self.assertRaises(BadPrice, house.reprice, 0, 1)
        house.undo()
        self.assertEqual(house.prices(), (1, 1))
        self.assertEqual(house.shows(), small_house().shows())

    def test_undoing_and_doing_again_are_no_deeds(self):
        house = House()
        house.reprice(2, 2)
        house.reprice(3, 3)
        house.undo()
        house.undo()
        self.assertEqual(depth(house), (0, 2))
        house.redo()
        self.assertEqual(depth(house), (1, 1))
        self.assertEqual(house.prices(), (2, 2))

    def test_no_question_changes_anything(self):
        house = small_house()
        house.reprice(7, 7)
        house.reprice(8, 8)
        house.undo()
        before, deep = state(house), depth(house)
        first = answers(house, [-1, 0, 20, 105, 10 ** 10])
        self.assertEqual(answers(house, [-1, 0, 20, 105, 10 ** 10]), first)
        self.assertEqual(state(house), before)
        self.assertEqual(depth(house), deep)
        self.assertEqual(deep[1], 1)

    def test_thousands_of_deeds(self):
        house = House()
        for turn in range(6000):
            house.reprice(1 + turn % 9, 1 + turn % 7)
        for turn in reversed(range(1, 6000)):
            house.undo()
            self.assertEqual(house.prices(), (1 + (turn - 1) % 9, 1 + (turn - 1) % 7))
        house.undo()
        self.assertRaises(NoDeed, house.undo)
        for turn in range(6000):
            house.redo()
        self.assertEqual(house.prices(), (1 + 5999 % 9, 1 + 5999 % 7))

    def test_deeds_undoings_and_refusals_in_any_order(self):
        for seed in range(12):
            source = random.Random(seed)
            house = House()
            told, at = [state(house)], 0
            for turn in range(250):
                draw = source.random()
                if draw < 0.2:
                    self.assertEqual(do(house, ("undo",)), at > 0)
                    at = max(0, at - 1)
                elif draw < 0.35:
                    self.assertEqual(do(house, ("redo",)), at < len(told) - 1)
                    at = min(len(told) - 1, at + 1)
                elif do(house, some_deed(source)):
                    told = told[:at + 1] + [state(house)]
                    at += 1
                self.assertEqual(state(house), told[at])


class Twins(unittest.TestCase):
    def test_a_twin_is_as_the_house_is(self):
        for house in (House(), small_house(), full_house()):
            twin = house.twin()
            self.assertIsInstance(twin, House)
            self.assertIsNot(twin, house)
            self.assertEqual(answers(twin, [0, 20, 105]), answers(house, [0, 20, 105]))

    def test_with_what_can_be_undone_and_done_again(self):
        house = small_house()
        house.reprice(7, 7)
        house.reprice(8, 8)
        house.undo()
        twin = house.twin()
        self.assertEqual(depth(twin), depth(house))
        twin.redo()
        self.assertEqual(twin.prices(), (8, 8))
        self.assertEqual(house.prices(), (7, 7))
        house.undo()
        house.undo()
        self.assertEqual(house.shows(), [])
        self.assertEqual(twin.shows(), small_house().shows())
        for turn in range(depth(twin)[0]):
            twin.undo()
        self.assertEqual(state(twin), state(House()))
        self.assertEqual(len(house.places()), 3)

    def test_each_goes_its_own_way(self):
        for deed in ONE_OF_EACH:
            house = small_house()
            twin = house.twin()
            before, deep = state(house), depth(house)
            self.assertTrue(do(twin, deed))
            self.assertEqual((state(house), depth(house)), (before, deep))
            house, twin = twin, house.twin()
            self.assertEqual(state(twin), before)
            self.assertNotEqual(state(house), before)

    def test_both_ways(self):
        house = small_house()
        twin = house.twin()
        self.assertEqual(house.hand("cap", 50, "den", "hall", 5), 5)
        self.assertEqual(twin.lend("bow", 50, 60), 5)
        self.assertEqual(house.loans("bow"), [(4, 5, 5)])
        self.assertEqual(twin.papers("cap"), [(1, 20, "hall", "den", 4)])
        twin.undo()
        self.assertEqual(len(house.papers("cap")), 2)
        house.undo()
        twin.redo()
        self.assertEqual(len(twin.loans("bow")), 2)
        house.redo()
        self.assertEqual(len(house.papers("cap")), 2)

    def test_a_twins_twin(self):
        house = small_house()
        twin = house.twin().twin()
        house.close("may")
        self.assertEqual(len(twin.shows()), 1)
        self.assertEqual(depth(twin), (11, 0))

    def test_many_twins_in_any_order(self):
        source = random.Random(77)
        houses = [small_house() for turn in range(3)]
        told = [(state(house), depth(house)) for house in houses]
        for turn in range(400):
            at = source.randrange(3)
            if source.random() < 0.1:
                other = source.randrange(3)
                houses[at], told[at] = houses[other].twin(), told[other]
            else:
                do(houses[at], source.choice([("undo",), ("redo",), some_deed(source), some_deed(source)]))
                told[at] = (state(houses[at]), depth(houses[at]))
            self.assertEqual([state(house) for house in houses], [kept[0] for kept in told])
        self.assertEqual([depth(house) for house in houses], [kept[1] for kept in told])


if __name__ == "__main__":
    unittest.main()
