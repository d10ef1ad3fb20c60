"""Points [11], [12], [13]: shows, dealings, and how full they can be."""

import itertools
import random
import unittest

from tests import show_reference as reference
from vitrine.shows import filled, good_dealing, shown_full

# Two shows with days in common; cap may be shown once, bow is away on day 2.
SHOWS = [("may", 2, 3, 2, ("cap", "bow")), ("april", 1, 2, 1, ("cap", "fan"))]
LIGHTS = {"cap": 1, "bow": 5, "fan": 5}
LEAVES = {"bow": [(2, 2)]}
FULL = [(1, "april", ["fan"]), (2, "april", ["fan"]), (2, "may", ["cap"]), (3, "may", ["bow"])]
EMPTY = [(1, "april", []), (2, "april", []), (2, "may", []), (3, "may", [])]


def with_row(at, row):
    return FULL[:at] + [row] + FULL[at + 1:]


def small_cases(seed, count):
    source = random.Random(seed)
    for turn in range(count):
        yield reference.some_shows(source, source.randint(0, 3), source.randint(1, 4))


class GoodDealing(unittest.TestCase):
    def check(self, rows, expected, shows=SHOWS, lights=LIGHTS, leaves=LEAVES):
        found = good_dealing(shows, lights, leaves, rows)
        self.assertIs(found, expected)
        self.assertIs(reference.is_dealing(shows, lights, leaves, rows), expected)

    def test_full_and_empty_ones(self):
        self.check(FULL, True)
        self.check(EMPTY, True)

    def test_no_shows(self):
        self.check([], True, shows=[])
        self.check([], True, shows=[], lights={}, leaves={})
        self.check(EMPTY, False, shows=[])
        self.check([], False)

    def test_each_day_of_each_show_once_and_in_order(self):
        for at in range(4):
            self.check(FULL[:at] + FULL[at + 1:], False)
            self.check(EMPTY[:at + 1] + EMPTY[at:], False)
        for order in itertools.permutations(EMPTY):
            self.check(list(order), list(order) == EMPTY)

    def test_days_and_shows_that_are_not_there(self):
        self.check([(0, "april", [])] + EMPTY, False)
        self.check(EMPTY + [(4, "may", [])], False)
        self.check(with_row(0, (1, "march", ["fan"])), False)
        self.check(with_row(0, (1, "may", ["fan"])), False)
        self.check(with_row(0, (0, "april", ["fan"])), False)
        self.check(with_row(0, (1, "", [])), False)

    def test_names_in_order_and_unlike(self):
        shows = [("may", 1, 1, 3, ("cap", "bow", "fan"))]
        lights = {"cap": 9, "bow": 9, "fan": 9}
        for names, expected in (
            (["bow", "cap", "fan"], True), (["bow", "fan"], True), (["fan"], True), ([], True),
            (["cap", "bow", "fan"], False), (["fan", "bow"], False), (["bow", "bow"], False), (["fan", "fan", "fan"], False),
        ):
            self.check([(1, "may", names)], expected, shows=shows, lights=lights)

    def test_room(self):
        for size in range(1, 4):
            shows = [("may", 1, 1, size, ("cap", "bow", "fan"))]
            for many in range(4):
                names = ["bow", "cap", "fan"][:many]
                self.check([(1, "may", names)], many <= size, shows=shows, lights={"cap": 1, "bow": 1, "fan": 1})

    def test_things_that_the_show_does_not_name(self):
        self.check(with_row(0, (1, "april", ["bow"])), False)
        self.check(with_row(0, (1, "april", ["lute"])), False)
        self.check(with_row(0, (1, "april", [""])), False)
        self.check([(1, "may", ["cap"])], False, shows=[("may", 1, 1, 1, ())])

    def test_things_on_leave(self):
        self.check(with_row(2, (2, "may", ["bow"])), False)
        self.check(with_row(2, (2, "may", ["bow"])), True, leaves={})
        shows = [("may", day, day, 1, ("cap",)) for day in (5,)]
        for leaves, expected in (
            ({"cap": [(5, 5)]}, False), ({"cap": [(4, 6)]}, False), ({"cap": [(5, 9)]}, False), ({"cap": [(1, 5)]}, False),
            ({"cap": [(6, 9)]}, True), ({"cap": [(1, 4)]}, True), ({"cap": []}, True), ({"bow": [(5, 5)]}, True),
            ({"cap": [(7, 9), (1, 2), (1, 5)]}, False), ({"cap": [(6, 9), (1, 4)]}, True),
            ({"cap": [(-(10 ** 9), 10 ** 9)]}, False),
        ):
            self.check([(5, "may", ["cap"])], expected, shows=shows, lights={"cap": 1}, leaves=leaves)

    def test_no_thing_twice_on_a_day(self):
        self.check(with_row(1, (2, "april", ["cap"])), False, lights={"cap": 9, "bow": 9, "fan": 9})
        shows = [("may", 1, 1, 1, ("cap",)), ("june", 1, 1, 1, ("cap",))]
        self.check([(1, "june", ["cap"]), (1, "may", ["cap"])], False, shows=shows)
        self.check([(1, "june", ["cap"]), (1, "may", [])], True, shows=shows)

    def test_lights(self):
        shows = [("may", 1, 3, 1, ("cap",))]
        for light in range(5):
            for many in range(4):
                rows = [(day, "may", ["cap"] if day <= many else []) for day in (1, 2, 3)]
                self.check(rows, many <= light, shows=shows, lights={"cap": light})

    def test_lights_count_over_all_shows(self):
        shows = [("may", 1, 1, 1, ("cap",)), ("june", 2, 2, 1, ("cap",))]
        rows = [(1, "may", ["cap"]), (2, "june", ["cap"])]
        self.check(rows, True, shows=shows, lights={"cap": 2})
        self.check(rows, False, shows=shows, lights={"cap": 1})

    def test_days_are_in_order_of_numbers(self):
        shows = [("may", 9, 10, 1, ())]
        self.check([(9, "may", []), (10, "may", [])], True, shows=shows)
        self.check([(10, "may", []), (9, "may", [])], False, shows=shows)

    def test_many_changed_dealings(self):
        source = random.Random(31)
        seen = {True: 0, False: 0}
        for shows, lights, leaves in small_cases(32, 300):
            rows = filled(shows, lights, leaves)[0]
            for turn in range(4):
                if rows:
                    at = source.randrange(len(rows))
                    day, show, names = rows[at]
                    rows[at] = (day, show, source.sample(reference.NAMES[:4], source.randint(0, 2)))
                expected = reference.is_dealing(shows, lights, leaves, rows)
                self.assertIs(good_dealing(shows, lights, leaves, rows), expected)
                seen[expected] += 1
        self.assertGreater(min(seen.values()), 50)


class ShownFull(unittest.TestCase):
    def check(self, rows, pairs, expected, shows=SHOWS, lights=LIGHTS, leaves=LEAVES):
        self.assertIs(shown_full(shows, lights, leaves, rows, pairs), expected)
        self.assertIs(reference.is_shown_full(shows, lights, leaves, rows, pairs), expected)

    def test_pairs_that_show_it(self):
        # Room 6 less the 4 of may, cap's 1 and bow's 1 (day 3 alone): 4 names.
        self.check(FULL, [(2, "may"), (3, "may")], True)

    def test_pairs_that_do_not(self):
        self.check(FULL, [], False)
        self.check(FULL, [(1, "april")], False)
        self.check(FULL, [(1, "april"), (3, "may")], False)

    def test_each_choice_of_pairs(self):
        known = [(1, "april"), (2, "april"), (2, "may"), (3, "may")]
        told = []
        for many in range(5):
            for pairs in itertools.combinations(known, many):
                expected = reference.bound_of(SHOWS, LIGHTS, LEAVES, pairs) == 4
                self.check(FULL, list(pairs), expected)
                told.append(expected)
        self.assertIn(True, told)
        self.assertIn(False, told)

    def test_a_dealing_that_is_not_full(self):
        self.check(EMPTY, [(2, "may"), (3, "may")], False)
        self.check(with_row(3, (3, "may", [])), [(2, "may"), (3, "may")], False)

    def test_rows_that_are_no_dealing(self):
        self.check(FULL[::-1], [(2, "may"), (3, "may")], False)
        self.check(with_row(2, (2, "may", ["bow"])), [(2, "may"), (3, "may")], False)
        self.check(with_row(0, (1, "april", ["lute"])), [(2, "may"), (3, "may")], False)

    def test_pairs_out_of_order_or_twice(self):
        self.check(FULL, [(3, "may"), (2, "may")], False)
        self.check(FULL, [(2, "may"), (2, "may"), (3, "may")], False)
        shows = [("may", 1, 1, 1, ()), ("april", 1, 1, 1, ())]
        rows = [(1, "april", []), (1, "may", [])]
        self.check(rows, [(1, "april"), (1, "may")], True, shows=shows)
        self.check(rows, [(1, "may"), (1, "april")], False, shows=shows)
        # The room of a pair that stands twice would count twice here.
        shows = [("may", 1, 2, 1, ())]
        rows = [(1, "may", []), (2, "may", [])]
        self.check(rows, [(1, "may"), (1, "may")], False, shows=shows)

    def test_pairs_that_are_no_days_of_shows(self):
        good = [(2, "may"), (3, "may")]
        for pair in ((1, "may"), (4, "may"), (2, "march"), (3, "april"), (2, ""), (-1, "may"), (10 ** 12, "may")):
            self.check(FULL, sorted(good + [pair]), False)

    def test_no_shows(self):
        self.check([], [], True, shows=[])
        self.check([], [(1, "may")], False, shows=[])

    def test_a_full_house_of_names_needs_no_pair(self):
        shows = [("may", 1, 2, 1, ("cap",))]
        rows = [(1, "may", ["cap"]), (2, "may", ["cap"])]
        self.check(rows, [], True, shows=shows, lights={"cap": 2}, leaves={})
        self.check(rows, [(1, "may")], True, shows=shows, lights={"cap": 2}, leaves={})

    def test_a_thing_counts_once_for_a_day_of_two_shows(self):
        shows = [("may", 1, 1, 1, ("cap",)), ("june", 1, 1, 1, ("cap",))]
        rows = [(1, "june", ["cap"]), (1, "may", [])]
        pairs = [(1, "june"), (1, "may")]
        self.check(rows, pairs, True, shows=shows, lights={"cap": 9}, leaves={})
        self.check(rows, pairs[:1], False, shows=shows, lights={"cap": 9}, leaves={})

    def test_many_choices_of_pairs(self):
        source = random.Random(33)
        seen = {True: 0, False: 0}
        for shows, lights, leaves in small_cases(34, 250):
            rows, pairs = filled(shows, lights, leaves)
            known = reference.all_pairs(shows)
            tries = [pairs, pairs[1:], known, []]
            tries += [sorted(source.sample(known, source.randint(0, len(known)))) for turn in range(3)]
            for tried in tries:
                expected = reference.is_shown_full(shows, lights, leaves, rows, tried)
                self.assertIs(shown_full(shows, lights, leaves, rows, tried), expected)
                seen[expected] += 1
        self.assertGreater(min(seen.values()), 50)


class Filled(unittest.TestCase):
    def check(self, shows, lights, leaves, most=None):
        found = filled(shows, lights, leaves)
        self.assertIs(type(found), tuple)
        rows, pairs = found
        self.assertIs(type(rows), list)
        self.assertIs(type(pairs), list)
        self.assertTrue(reference.is_shown_full(shows, lights, leaves, rows, pairs))
        self.assertTrue(good_dealing(shows, lights, leaves, rows))
        self.assertTrue(shown_full(shows, lights, leaves, rows, pairs))
        self.assertTrue(all(type(row) is tuple and type(row[2]) is list for row in rows))
        if most is not None:
            self.assertEqual(reference.names_in_all(rows), most)
        return found

    def test_no_shows(self):
        self.assertEqual(filled([], {}, {}), ([], []))
        self.assertEqual(filled([], {"cap": 3}, {"cap": [(1, 2)]}), ([], []))

    def test_a_show_that_names_no_thing(self):
        rows, pairs = self.check([("may", 3, 5, 2, ())], {}, {}, 0)
        self.assertEqual(rows, [(3, "may", []), (4, "may", []), (5, "may", [])])
        self.assertEqual(pairs, [(3, "may"), (4, "may"), (5, "may")])

    def test_one_thing_on_one_day(self):
        rows, pairs = self.check([("may", 7, 7, 1, ("cap",))], {"cap": 1}, {}, 1)
        self.assertEqual(rows, [(7, "may", ["cap"])])

    def test_no_light(self):
        self.check([("may", 7, 9, 1, ("cap",))], {"cap": 0}, {}, 0)

    def test_less_light_than_days(self):
        self.check([("may", 1, 5, 1, ("cap",))], {"cap": 3}, {}, 3)

    def test_more_light_than_days(self):
        self.check([("may", 1, 5, 1, ("cap",))], {"cap": 10 ** 6}, {}, 5)

    def test_always_on_leave(self):
        self.check([("may", 1, 5, 1, ("cap",))], {"cap": 5}, {"cap": [(0, 10 ** 9)]}, 0)

    def test_leaves_that_have_days_in_common(self):
        leaves = {"cap": [(4, 5), (2, 4), (2, 2)]}
        rows, pairs = self.check([("may", 1, 6, 1, ("cap",))], {"cap": 6}, leaves, 2)
        self.assertEqual([day for day, show, names in rows if names], [1, 6])

    def test_the_document_in_small(self):
        self.check(SHOWS, LIGHTS, LEAVES, 4)

    def test_what_was_dealt_first_has_to_give_way(self):
        # Whoever deals cap to the first day must take it back, for the second day can have nothing else.
        for order in (("cap", "bow"), ("bow", "cap")):
            shows = [("a", 1, 1, 1, order), ("b", 2, 2, 1, ("cap",))]
            rows, pairs = self.check(shows, {"cap": 1, "bow": 1}, {}, 2)
            self.assertEqual(rows, [(1, "a", ["bow"]), (2, "b", ["cap"])])

    def test_on_one_day_too(self):
        for order in (("cap", "bow"), ("bow", "cap")):
            shows = [("a", 1, 1, 1, order), ("b", 1, 1, 1, ("cap",))]
            rows, pairs = self.check(shows, {"cap": 9, "bow": 9}, {}, 2)
            self.assertEqual(rows, [(1, "a", ["bow"]), (1, "b", ["cap"])])

    def test_a_long_chain_of_giving_way(self):
        names = reference.NAMES
        for turned in (False, True):
            shows = []
            for at in range(8):
                named = (names[at], names[at + 1])
                shows.append((f"s{'abcdefgh'[at]}", at, at, 1, named[::-1] if turned else named))
            lights = {name: 1 for name in names}
            last = ("sh", 7, 7, 1, (names[0 if not turned else 7],))
            self.check(shows[:7] + [last], lights, {}, 8)

    def test_the_room_of_all_is_filled_where_things_are_many(self):
        names = tuple(reference.NAMES)
        rows, pairs = self.check([("may", 1, 30, 12, names)], {name: 30 for name in names}, {}, 360)
        self.assertEqual({tuple(row[2]) for row in rows}, {names})

    def test_all_small_cases_are_as_full_as_can_be(self):
        for shows, lights, leaves in small_cases(35, 400):
            self.check(shows, lights, leaves, reference.most_names(shows, lights, leaves))

    def test_shows_in_any_order(self):
        for shows, lights, leaves in small_cases(36, 40):
            most = reference.names_in_all(filled(shows, lights, leaves)[0])
            for order in itertools.permutations(shows):
                self.check(list(order), lights, leaves, most)

    def test_large_cases(self):
        source = random.Random(37)
        for turn in range(25):
            spread = source.choice([0, 10, 60])
            self.check(*reference.some_shows(source, 8, 12, 30, 12, spread, source.choice([3, 30, 150])))

    def test_the_largest_cases(self):
        names = tuple(reference.NAMES)
        for light in (0, 1, 29, 30, 31, 239, 240, 241):
            shows = [(name, 40 * at, 40 * at + 29, 12, names) for at, name in enumerate(reference.SHOW_NAMES)]
            self.check(shows, {name: light for name in names}, {}, 12 * min(light, 240))
            shows = [(name, 10 ** 9 - 29, 10 ** 9, 12, names) for name in reference.SHOW_NAMES]
            self.check(shows, {name: light for name in names}, {}, 12 * min(light, 30))

    def test_many_things(self):
        source = random.Random(38)
        things = ["t" + one + other for one in "abcdefgh" for other in "abcdefghij"]
        shows = [(name, at, at + 29, 12, tuple(source.sample(things, 50)))
                 for at, name in enumerate(reference.SHOW_NAMES)]
        self.check(shows, {thing: source.randint(0, 50) for thing in things}, reference.some_leaves(source, things, 30))

    def test_lights_of_things_that_no_show_names(self):
        self.check([("may", 1, 2, 2, ("cap",))], {"cap": 2, "bow": 2, "fan": 0}, {}, 2)


class Beyond(unittest.TestCase):
    """Somewhat beyond the bounds nothing is refused."""

    def full(self, shows, lights, leaves):
        rows, pairs = filled(shows, lights, leaves)
        self.assertTrue(good_dealing(shows, lights, leaves, rows))
        self.assertTrue(shown_full(shows, lights, leaves, rows, pairs))
        return reference.names_in_all(rows)

    def test_more_than_thirty_days(self):
        self.assertEqual(self.full([("may", 1, 35, 1, ("cap",))], {"cap": 33}, {}), 33)

    def test_more_than_eight_shows(self):
        shows = [("s" + letter, 1, 1, 1, ("cap", "bow")) for letter in "abcdefghij"]
        self.assertEqual(self.full(shows, {"cap": 5, "bow": 5}, {}), 2)

    def test_sizes(self):
        names = tuple(reference.NAMES + ["more"])
        lights = {name: 1 for name in names}
        self.assertEqual(self.full([("may", 1, 1, 13, names)], lights, {}), 13)
        self.assertEqual(self.full([("may", 1, 1, 0, names)], lights, {}), 0)

    def test_days_ahead_of_nought(self):
        self.assertEqual(self.full([("may", -2, 1, 1, ("cap",))], {"cap": 9}, {"cap": [(-5, -2)]}), 3)

    def test_light_below_nought(self):
        self.assertEqual(self.full([("may", 1, 1, 2, ("cap", "bow"))], {"cap": -1, "bow": 1}, {}), 1)


if __name__ == "__main__":
    unittest.main()
