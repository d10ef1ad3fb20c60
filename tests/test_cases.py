"""Points [8], [9], [10]: what ranges have in common, settings, and things that clash."""

import itertools
import random
import unittest

from tests import reference
from vitrine.cases import clashes, common, settings


def slow_common(ranges):
    suiting = [damp for damp in range(101) if all(low <= damp <= high for low, high in ranges)]
    if suiting:
        return ("all", suiting[0], suiting[-1])
    for one, other in itertools.combinations(range(len(ranges)), 2):
        if not reference.meet(ranges[one], ranges[other]):
            return ("never", one, other)


class Common(unittest.TestCase):
    def test_no_ranges(self):
        self.assertEqual(common([]), ("all", 0, 100))

    def test_one_range(self):
        for pair in ((0, 100), (0, 0), (100, 100), (40, 60), (37, 37)):
            self.assertEqual(common([pair]), ("all",) + pair)

    def test_ranges_that_overlap(self):
        self.assertEqual(common([(10, 60), (40, 90), (5, 55)]), ("all", 40, 55))
        self.assertEqual(common([(0, 100), (20, 30)]), ("all", 20, 30))
        self.assertEqual(common([(20, 30), (20, 30)]), ("all", 20, 30))

    def test_ranges_that_touch_in_one_dampness(self):
        self.assertEqual(common([(10, 50), (50, 90)]), ("all", 50, 50))
        self.assertEqual(common([(50, 90), (10, 50)]), ("all", 50, 50))
        self.assertEqual(common([(50, 50), (50, 50), (0, 50)]), ("all", 50, 50))

    def test_ranges_that_never_meet(self):
        self.assertEqual(common([(10, 49), (50, 90)]), ("never", 0, 1))
        self.assertEqual(common([(50, 90), (10, 49)]), ("never", 0, 1))
        self.assertEqual(common([(0, 0), (100, 100)]), ("never", 0, 1))

    def test_the_first_pair_in_order(self):
        # Apart are 0 and 3, 1 and 2, 1 and 3, 2 and 3.
        self.assertEqual(common([(0, 50), (0, 20), (30, 60), (70, 80)]), ("never", 0, 3))
        self.assertEqual(common([(0, 100), (0, 20), (30, 60), (70, 80)]), ("never", 1, 2))
        self.assertEqual(common([(0, 100), (0, 100), (90, 100), (0, 89)]), ("never", 2, 3))
        self.assertEqual(common([(5, 5), (0, 9), (6, 6), (4, 4)]), ("never", 0, 2))

    def test_forty_ranges(self):
        self.assertEqual(common([(at, 100 - at) for at in range(40)]), ("all", 39, 61))
        self.assertEqual(common([(at, at + 38) for at in range(40)]), ("never", 0, 39))
        self.assertEqual(common([(at, at + 39) for at in range(40)]), ("all", 39, 39))

    def test_kinds(self):
        for ranges in ([], [(1, 2)], [(1, 2), (3, 4)]):
            found = common(ranges)
            self.assertIs(type(found), tuple)
            self.assertEqual([type(part) for part in found], [str, int, int])

    def test_many_cases(self):
        source = random.Random(31)
        seen = {"all": 0, "never": 0}
        for turn in range(500):
            ranges = reference.some_ranges(source, 6)
            found = common(ranges)
            self.assertEqual(found, slow_common(ranges), ranges)
            seen[found[0]] += 1
        self.assertGreater(min(seen.values()), 100)


class Settings(unittest.TestCase):
    def check(self, ranges):
        """All that is promised; as many ranges that are apart show that fewer settings will not do."""
        found = settings(ranges)
        self.assertIs(type(found), tuple)
        self.assertEqual([type(part) for part in found], [list, list])
        damps, places = found
        self.assertEqual([type(part) for part in damps + places], [int] * (2 * len(damps)))
        self.assertEqual(damps, sorted(set(damps)))
        self.assertEqual(places, sorted(set(places)))
        self.assertEqual(len(damps), len(places))
        for low, high in ranges:
            self.assertTrue(any(low <= damp <= high for damp in damps), (low, high))
        for place in places:
            self.assertIn(place, range(len(ranges)))
        for one, other in itertools.combinations(places, 2):
            self.assertFalse(reference.meet(ranges[one], ranges[other]), (one, other))
        return len(damps)

    def test_no_ranges(self):
        self.assertEqual(settings([]), ([], []))

    def test_one_range(self):
        for pair in ((0, 100), (0, 0), (100, 100), (40, 60)):
            self.assertEqual(self.check([pair]), 1)
        self.assertEqual(settings([(7, 7)]), ([7], [0]))

    def test_single_dampnesses(self):
        self.assertEqual(settings([(9, 9), (3, 3), (5, 5)]), ([3, 5, 9], [0, 1, 2]))
        self.assertEqual(self.check([(3, 3), (3, 3)]), 1)
        self.assertEqual(self.check([(3, 3), (4, 4)]), 2)

    def test_ranges_that_touch_in_one_dampness(self):
        self.assertEqual(settings([(50, 90), (10, 50)])[0], [50])
        self.assertEqual(self.check([(50, 90), (10, 50)]), 1)

    def test_ranges_that_never_meet(self):
        self.assertEqual(self.check([(51, 90), (10, 50)]), 2)
        self.assertEqual(settings([(51, 90), (10, 50)])[1], [0, 1])

    def test_a_chain_of_ranges_each_meeting_only_the_following(self):
        self.assertEqual(self.check([(0, 10), (10, 20), (20, 30), (30, 40)]), 2)
        self.assertEqual(self.check([(0, 10), (10, 20), (20, 30), (30, 40), (40, 50)]), 3)

    def test_a_wide_range_over_narrow_ones(self):
        self.assertEqual(self.check([(0, 100), (10, 12), (30, 33), (31, 40)]), 2)
        self.assertEqual(self.check([(0, 100), (0, 0), (100, 100)]), 2)

    def test_forty_ranges(self):
        self.assertEqual(self.check([(2 * at, 2 * at + 1) for at in reversed(range(40))]), 40)
        self.assertEqual(self.check([(at, at + 9) for at in range(40)]), 4)

    def test_all_orders(self):
        for ranges in itertools.permutations([(0, 4), (3, 9), (5, 6), (8, 20), (20, 21)]):
            self.assertEqual(self.check(list(ranges)), 3)

    def test_many_cases(self):
        source = random.Random(32)
        for turn in range(500):
            self.check(reference.some_ranges(source, source.choice([3, 8, 40])))

    def test_the_fewest_among_all_choices(self):
        source = random.Random(33)
        for turn in range(60):
            ranges = reference.some_ranges(source, 6, top=8)
            fewest = min(
                many for many in range(10) for damps in itertools.combinations(range(9), many)
                if all(any(low <= damp <= high for damp in damps) for low, high in ranges)
            )
            self.assertEqual(self.check(ranges), fewest)


class Clashes(unittest.TestCase):
    def test_no_things_and_one(self):
        self.assertEqual(clashes([], []), [])
        self.assertEqual(clashes([], [("silk", "iron")]), [])
        self.assertEqual(clashes([("cap", "silk", 10, 20)], [("silk", "silk")]), [])

    def test_nothing_clashes(self):
        things = [("cap", "silk", 10, 20), ("bow", "iron", 20, 30)]
        self.assertEqual(clashes(things, []), [])
        self.assertEqual(clashes(things, [("silk", "silk"), ("iron", "iron"), ("silk", "wood")]), [])

    def test_bars_in_either_order(self):
        things = [("cap", "silk", 10, 20), ("bow", "iron", 20, 30)]
        self.assertEqual(clashes(things, [("silk", "iron")]), [("bow", "cap", "kind")])
        self.assertEqual(clashes(things, [("iron", "silk")]), [("bow", "cap", "kind")])
        self.assertEqual(clashes(things, [("wood", "silk"), ("iron", "silk")]), [("bow", "cap", "kind")])

    def test_a_bar_in_both_orders_is_one_clash(self):
        things = [("cap", "silk", 10, 20), ("bow", "iron", 20, 30)]
        self.assertEqual(clashes(things, [("silk", "iron"), ("iron", "silk")]), [("bow", "cap", "kind")])

    def test_the_same_kind_twice(self):
        things = [("cap", "silk", 10, 20), ("bow", "silk", 20, 30), ("fan", "iron", 20, 20)]
        self.assertEqual(clashes(things, [("silk", "silk")]), [("bow", "cap", "kind")])
        self.assertEqual(clashes(things, [("iron", "iron")]), [])
        self.assertEqual(clashes(things, [("silk", "iron")]), [("bow", "fan", "kind"), ("cap", "fan", "kind")])

    def test_damp(self):
        self.assertEqual(clashes([("bow", "iron", 0, 19), ("cap", "silk", 20, 30)], []), [("bow", "cap", "damp")])
        self.assertEqual(clashes([("bow", "iron", 20, 30), ("cap", "silk", 0, 19)], []), [("bow", "cap", "damp")])
        self.assertEqual(clashes([("bow", "iron", 20, 30), ("cap", "silk", 0, 20)], []), [])
        self.assertEqual(clashes([("bow", "iron", 0, 100), ("cap", "silk", 50, 50)], []), [])

    def test_both_words_for_one_pair(self):
        things = [("cap", "silk", 10, 19), ("bow", "iron", 20, 30)]
        self.assertEqual(clashes(things, [("silk", "iron")]), [("bow", "cap", "damp"), ("bow", "cap", "kind")])

    def test_the_lesser_name_first_whatever_the_order_of_things(self):
        things = [("fan", "silk", 0, 9), ("bow", "iron", 20, 30), ("cap", "silk", 20, 40), ("arm", "wood", 9, 20)]
        expected = [("arm", "bow", "kind"), ("bow", "cap", "kind"), ("bow", "fan", "damp"), ("bow", "fan", "kind"),
                    ("cap", "fan", "damp"), ("cap", "fan", "kind")]
        bars = [("silk", "silk"), ("silk", "iron"), ("iron", "wood")]
        for turned in itertools.permutations(things):
            self.assertEqual(clashes(list(turned), bars), expected)

    def test_a_name_that_begins_another_is_the_lesser(self):
        things = [("capes", "silk", 0, 0), ("cap", "iron", 1, 1)]
        self.assertEqual(clashes(things, []), [("cap", "capes", "damp")])

    def test_kinds_of_values(self):
        found = clashes([("cap", "silk", 10, 19), ("bow", "iron", 20, 30)], [("silk", "iron")])
        self.assertIs(type(found), list)
        for clash in found:
            self.assertIs(type(clash), tuple)
            self.assertEqual([type(part) for part in clash], [str, str, str])

    def test_many_cases(self):
        source = random.Random(34)
        kinds = ["bone", "iron", "silk"]
        for turn in range(200):
            names = source.sample(["arm", "bow", "cap", "den", "elk", "fan"], source.randint(0, 6))
            things = []
            for name in names:
                low = source.randint(0, 100)
                things.append((name, source.choice(kinds), low, source.randint(low, 100)))
            bars = [(source.choice(kinds), source.choice(kinds)) for bar in range(source.randint(0, 3))]
            expected = []
            for one, other in itertools.combinations(sorted(things), 2):
                if not reference.meet(one[2:], other[2:]):
                    expected.append((one[0], other[0], "damp"))
                if any(set(bar) == {one[1], other[1]} for bar in bars):
                    expected.append((one[0], other[0], "kind"))
            self.assertEqual(clashes(things, bars), expected)


if __name__ == "__main__":
    unittest.main()
