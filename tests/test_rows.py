"""Points [19], [20]: a house written as rows, and rows read to a house."""

import unittest

from tests.houses import answers, depth, full_house, letters, small_house, some_house, state
from vitrine.errors import BadRow, HouseError, NoDeed
from vitrine.house import House
from vitrine.rows import house_rows, read_house

SMALL = [
    "price 1 1",
    "place den dark",
    "place hall lit",
    "place shop bench",
    "bar iron silk",
    "thing bow iron 50 90 0 0 den 0",
    "thing cap silk 10 60 100 10 hall 2",
    "hand 1 cap 20 hall den 4",
    "lend 2 cap 30 40",
    "hand 3 bow 20 den hall 1",
    "lend 4 bow 5 5",
    "show may 100 110 3 cap bow",
    "next 5",
]
BARE = ["price 1 1", "next 1"]
PLACES = ["price 1 1", "place a lit", "place b dark"]
THINGS = PLACES + ["thing c k 0 100 0 5 a 0", "thing d k 0 100 0 5 b 9"]


class Written(unittest.TestCase):
    def test_an_empty_house(self):
        self.assertEqual(house_rows(House()), BARE)

    def test_a_small_house(self):
        self.assertEqual(house_rows(small_house()), SMALL)

    def test_prices_and_next_number(self):
        house = small_house()
        house.reprice(9, 3)
        house.strike(4)
        house.strike(1)
        rows = house_rows(house)
        self.assertEqual(rows[0], "price 9 3")
        self.assertEqual(rows[7:], ["lend 2 cap 30 40", "hand 3 bow 20 den hall 1", "show may 100 110 3 cap bow", "next 5"])

    def test_a_show_of_nothing(self):
        house = small_house()
        house.show("june", 0, 0, 1, [])
        self.assertIn("show june 0 0 1", house_rows(house))

    def test_things_of_a_show_as_they_were_handed_in(self):
        house = small_house()
        house.show("june", 0, 0, 1, ["bow", "cap"])
        house.show("july", 0, 0, 1, ["cap", "bow"])
        self.assertEqual(house_rows(house)[-4:-1], [
            "show july 0 0 1 cap bow", "show june 0 0 1 bow cap", "show may 100 110 3 cap bow",
        ])

    def test_numbers_by_their_worth_and_not_by_their_figures(self):
        house = small_house()
        for turn in range(8):
            house.hand("cap", 100 - turn, "den", "den", 1)
        numbers = [int(row.split()[1]) for row in house_rows(house) if row.split()[0] in ("hand", "lend")]
        self.assertEqual(numbers, list(range(1, 13)))

    def test_the_greatest_numbers(self):
        house = House()
        house.place("abcdefgh", "out")
        house.thing("abcdefgh", "zzzzzzzz", 0, 100, 10 ** 6, 10 ** 9 - 1, "abcdefgh", 9)
        house.hand("abcdefgh", 10 ** 9, "abcdefgh", "abcdefgh", 9)
        house.lend("abcdefgh", 0, 10 ** 9)
        house.show("abcdefgh", 10 ** 9, 10 ** 9, 12, ["abcdefgh"])
        rows = house_rows(house)
        self.assertEqual(rows, [
            "price 1 1", "place abcdefgh out", "thing abcdefgh zzzzzzzz 0 100 1000000 999999999 abcdefgh 9",
            "hand 1 abcdefgh 1000000000 abcdefgh abcdefgh 9", "lend 2 abcdefgh 0 1000000000",
            "show abcdefgh 1000000000 1000000000 12 abcdefgh", "next 3",
        ])
        self.assertEqual(house_rows(read_house(rows)), rows)

    def test_bars_in_order(self):
        house = House()
        for one, other in (("b", "b"), ("c", "a"), ("a", "b"), ("a", "a"), ("ab", "a")):
            house.bar(one, other)
        self.assertEqual(house_rows(house)[1:-1], ["bar a a", "bar a ab", "bar a b", "bar a c", "bar b b"])

    def test_writing_changes_nothing(self):
        house = small_house()
        house.undo()
        before, deep = state(house), depth(house)
        house_rows(house).clear()
        self.assertEqual(house_rows(house), [row for row in SMALL if not row.startswith("show")])
        self.assertEqual((state(house), depth(house)), (before, deep))


class Read(unittest.TestCase):
    def test_an_empty_house(self):
        house = read_house(BARE)
        self.assertIsInstance(house, House)
        self.assertEqual(state(house), state(House()))

    def test_a_small_house(self):
        house = read_house(SMALL)
        self.assertEqual(state(house), state(small_house()))
        self.assertEqual(answers(house, [0, 20, 105]), answers(small_house(), [0, 20, 105]))

    def test_nothing_can_be_undone_or_done_again(self):
        for rows in (BARE, SMALL):
            house = read_house(rows)
            self.assertRaises(NoDeed, house.undo)
            self.assertRaises(NoDeed, house.redo)
            self.assertEqual(house_rows(house), rows)
            house.reprice(5, 5)
            house.undo()
            self.assertRaises(NoDeed, house.undo)
            self.assertEqual(house_rows(house), rows)

    def test_the_next_number(self):
        house = read_house(["price 1 1", "place a lit", "thing c k 0 100 0 5 a 0", "hand 7 c 9 a a 0", "next 40"])
        self.assertEqual(house.upcoming(), 40)
        self.assertEqual(house.papers("c"), [(7, 9, "a", "a", 0)])
        self.assertEqual(house.hand("c", 10, "a", "a", 0), 40)
        self.assertEqual(house.lend("c", 10, 10), 41)
        house.undo()
        house.undo()
        self.assertEqual(house.upcoming(), 40)
        house.strike(7)
        self.assertEqual(house.hand("c", 9, "a", "a", 0), 40)

    def test_the_greatest_number(self):
        rows = ["price 1 1", "place a lit", "thing c k 0 100 0 5 a 0", "lend 9999999998 c 9 9", "next 9999999999"]
        house = read_house(rows)
        self.assertEqual(house.upcoming(), 9999999999)
        self.assertEqual(house_rows(house), rows)

    def test_there_and_back(self):
        for house in [some_house(seed, 120) for seed in range(100, 140)] + [full_house(), small_house(), House()]:
            rows = house_rows(house)
            again = read_house(rows)
            self.assertEqual(state(again), state(house))
            self.assertEqual(house_rows(again), rows)
            self.assertEqual(again.plan(5), read_house(rows).plan(5))

    def test_what_is_handed_in_is_neither_changed_nor_kept(self):
        rows = list(SMALL)
        house = read_house(rows)
        self.assertEqual(rows, SMALL)
        rows.clear()
        self.assertEqual(house_rows(house), SMALL)

    def test_houses_that_are_read_go_their_own_ways(self):
        one, other = read_house(SMALL), read_house(SMALL)
        one.close("may")
        self.assertEqual(house_rows(other), SMALL)
        one.twin().place("a", "lit")
        self.assertEqual(len(one.places()), 3)


class Wrong(unittest.TestCase):
    def wrong(self, rows, at):
        kept = list(rows)
        with self.subTest(rows[at] if at < len(rows) else rows[-3:]):
            with self.assertRaises(HouseError) as caught:
                read_house(rows)
            self.assertIs(type(caught.exception), BadRow)
            self.assertEqual(caught.exception.at, at)
            self.assertIs(type(caught.exception.at), int)
        self.assertEqual(rows, kept)

    def each(self, ahead, rows):
        """Each of the rows is wrong behind those ahead, whatever follows."""
        for row in rows:
            self.wrong(ahead + [row], len(ahead))
            self.wrong(ahead + [row, "next 99"], len(ahead))
            self.wrong(ahead + [row, "nonsense", "next 99"], len(ahead))

    def right(self, ahead, rows):
        for row in rows:
            with self.subTest(row):
                self.assertEqual(house_rows(read_house(ahead + [row, "next 99"])), ahead + [row, "next 99"])

    def test_no_rows(self):
        self.wrong([], 0)

    def test_no_next_one(self):
        for many in range(1, len(SMALL)):
            self.wrong(SMALL[:many], many)

    def test_a_row_behind_the_next_one(self):
        for row in SMALL + ["next 6", "", "place z lit", "show z 1 1 1"]:
            self.wrong(SMALL + [row], len(SMALL))
            self.wrong(BARE + [row], 2)

    def test_the_price_first_and_once(self):
        for row in SMALL[1:] + [""]:
            self.wrong([row], 0)
            self.wrong([row] + SMALL, 0)
        self.wrong(SMALL[1:], 0)
        for at in range(1, len(SMALL) + 1):
            self.wrong(SMALL[:at] + ["price 1 1"] + SMALL[at:], at)
            self.wrong(SMALL[:at] + ["price 2 3"] + SMALL[at:], at)

    def test_prices(self):
        self.right([], ["price 1 9", "price 9 1"])
        self.each([], ["price 0 1", "price 1 0", "price 10 1", "price 1 10", "price 1", "price 1 1 1", "price", "price a 1", "price 1 -1"])

    def test_parts_out_of_order(self):
        parts = [SMALL[0], SMALL[1], "bar k k", "thing c k 0 100 0 5 den 0", "lend 1 c 5 5", "show s 1 1 1"]
        self.assertEqual(len(house_rows(read_house(parts + ["next 2"]))), 7)
        later = ["place e lit", "bar m m", "thing e k 0 100 0 5 den 0", "lend 2 c 6 6", "show t 1 1 1"]
        for at, row in enumerate(later):
            for behind in range(at + 3, len(parts) + 1):
                self.wrong(parts[:behind] + [row, "next 9"], behind)
            self.assertEqual(len(house_rows(read_house(parts[:at + 2] + [row, "next 9"]))), at + 4)

    def test_names_out_of_order_or_twice(self):
        self.each(PLACES, ["place b lit", "place a lit", "place aa lit"])
        self.right(PLACES, ["place ba lit", "place c lit"])
        self.each(THINGS, ["thing d k 0 100 0 5 a 0", "thing c k 0 100 0 5 a 0", "thing a k 0 100 0 5 a 0"])
        self.right(THINGS, ["thing da k 0 100 0 5 a 0", "thing e k 0 100 0 5 a 0"])
        shows = THINGS + ["show c 1 1 1", "show e 1 1 1"]
        self.each(shows, ["show e 1 1 1", "show c 1 1 1", "show d 1 1 1"])
        self.right(shows, ["show f 1 1 1", "show ea 1 1 1"])

    def test_kinds_out_of_order_or_twice(self):
        bars = BARE[:1] + ["bar b b", "bar b d"]
        self.each(bars, ["bar b d", "bar b c", "bar b b", "bar a z", "bar d b", "bar f e", "bar c b"])
        self.right(bars, ["bar b e", "bar c c", "bar c d", "bar b da"])

    def test_numbers_out_of_order_or_twice(self):
        papers = THINGS + ["hand 3 c 10 a b 1", "lend 10 c 10 12"]
        self.right(papers, ["hand 11 c 11 a b 1", "lend 11 c 13 13", "hand 98 d 10 a b 1"])
        self.each(papers, ["hand 10 c 11 a b 1", "hand 9 c 11 a b 1", "hand 3 c 11 a b 1", "lend 10 d 1 1", "lend 2 d 1 1"])
        self.each(THINGS, ["hand 0 c 11 a b 1", "lend 0 c 1 1", "hand -1 c 11 a b 1"])
        self.right(THINGS, ["hand 1 c 11 a b 1", "lend 1 c 1 1"])

    def test_next_numbers(self):
        papers = THINGS + ["hand 3 c 10 a b 1", "lend 10 c 10 12"]
        for number in (0, 1, 3, 4, 9, 10):
            self.wrong(papers + [f"next {number}"], len(papers))
        for number in (11, 12, 9999999999):
            self.assertEqual(read_house(papers + [f"next {number}"]).upcoming(), number)
        self.wrong(["price 1 1", "next 0"], 1)
        self.wrong(["price 1 1", "next"], 1)
        self.wrong(["price 1 1", "next 1 1"], 1)
        self.wrong(["price 1 1", "next x"], 1)
        self.wrong(["price 1 1", "next 10000000000"], 1)
        self.wrong(["price 1 1", "next 01"], 1)

    def test_deeds_that_would_be_refused(self):
        self.each(PLACES, ["place C lit", "place abcdefghi lit", "place c Lit", "place c cold", "place c1 lit"])
        self.each(PLACES, ["bar A b", "bar a B", "bar abcdefghi z"])
        self.each(PLACES, [
            "thing C k 0 100 0 5 a 0", "thing c K 0 100 0 5 a 0", "thing c k 9 8 0 5 a 0", "thing c k 0 101 0 5 a 0",
            "thing c k 0 100 1000001 5 a 0", "thing c k 0 100 0 1000000001 a 0", "thing c k 0 100 0 5 c 0",
            "thing c k 0 100 0 5 a 10",
        ])
        papers = THINGS + ["hand 3 c 10 a b 1", "lend 10 c 10 12"]
        self.each(papers, [
            "hand 11 e 11 a b 1", "hand 11 c 1000000001 a b 1", "hand 11 c 11 c b 1", "hand 11 c 11 a c 1",
            "hand 11 c 11 a b 10", "hand 11 c 5 a b 1", "hand 11 c 4 a b 1", "hand 11 c 10 a b 1",
            "lend 11 e 1 1", "lend 11 c 1 1000000001", "lend 11 c 2 1", "lend 11 c 12 12", "lend 11 c 1 10",
        ])
        self.each(papers, [
            "show S 1 1 1", "show s 1 1000000001 1", "show s 2 1 1", "show s 1 31 1", "show s 1 1 0", "show s 1 1 13",
            "show s 1 1 1 e", "show s 1 1 1 c e", "show s 1 1 1 c c", "show s 1 1 1 c d c",
        ])
        self.right(papers, ["show s 1 30 12 d c", "show s 1 1 1 c", "show s 1 1 1"])

    def test_a_full_house(self):
        rows = house_rows(full_house())
        last = {row.split()[0]: at for at, row in enumerate(rows)}
        for word, row in (
            ("place", "place z lit"), ("bar", "bar z z"), ("thing", "thing z k 0 100 0 5 naa 0"),
            ("lend", "hand 61 naa 500 naa naa 0"), ("lend", "lend 61 naa 500 500"), ("show", "show z 1 1 1"),
        ):
            self.wrong(rows[:last[word] + 1] + [row] + rows[last[word] + 1:], last[word] + 1)

    def test_rows_whose_row_ahead_is_gone(self):
        for gone, at in ((1, 4), (2, 5), (5, 8), (6, 6)):
            self.wrong(SMALL[:gone] + SMALL[gone + 1:], at)

    def test_blanks(self):
        for at, row in enumerate(SMALL):
            words = row.split(" ")
            tries = [" " + row, row + " ", row.replace(" ", "  ", 1), "  ".join(words), "", " ", words[0], words[0] + " "]
            for tried in tries:
                self.wrong(SMALL[:at] + [tried] + SMALL[at + 1:], at)

    def test_words_too_few_or_too_many(self):
        for at, row in enumerate(SMALL):
            words = row.split(" ")
            if words[0] != "show":
                self.wrong(SMALL[:at] + [" ".join(words[:-1])] + SMALL[at + 1:], at)
                self.wrong(SMALL[:at] + [row + " " + words[-1]] + SMALL[at + 1:], at)
        for row in ("show", "show s", "show s 1", "show s 1 1"):
            self.wrong(SMALL[:11] + [row] + SMALL[12:], 11)

    def test_first_words(self):
        for at, row in enumerate(SMALL):
            word, rest = row.split(" ", 1)
            for tried in (word.upper(), word.title(), word[:-1], word + "s", "x", "-", "1"):
                self.wrong(SMALL[:at] + [tried + " " + rest] + SMALL[at + 1:], at)
            self.wrong(SMALL[:at] + ["# " + row] + SMALL[at:], at)

    def test_numbers_as_they_are_written(self):
        for at, row in enumerate(SMALL):
            words = row.split(" ")
            for place, word in enumerate(words):
                if word.isdigit():
                    long = "0" * (11 - len(word)) + word
                    for tried in ("0" + word, "+" + word, "-" + word, word + ".", word + "a", "x", long, "9" * 11, "1_0", "0x1", "1e1", "''"):
                        row = " ".join(words[:place] + [tried] + words[place + 1:])
                        self.wrong(SMALL[:at] + [row] + SMALL[at + 1:], at)

    def test_ten_figures_are_a_number(self):
        self.wrong(["price 1 1", "next 00000000001"], 1)
        self.assertEqual(read_house(["price 1 1", "next 1234567890"]).upcoming(), 1234567890)
        self.wrong(["price 1 1", "next 12345678901"], 1)
        self.wrong(["price 1 1", "next " + "9" * 5000], 1)

    def test_signs(self):
        for sign in [chr(code) for code in range(32, 127) if chr(code) != "%"]:
            self.wrong(["price 1 1", sign], 1)
            if not sign.isdigit():
                self.wrong(["price 1 1", "next " + sign], 1)
                self.wrong(["price 1 1", "next 1" + sign], 1)
            if not sign.islower():
                self.wrong(["price 1 1", "place a" + sign + " lit"], 1)

    def test_the_first_wrong_row(self):
        for first in range(len(SMALL)):
            for second in range(first, len(SMALL)):
                rows = [("wrong" if at in (first, second) else row) for at, row in enumerate(SMALL)]
                self.wrong(rows, first)


class Swapped(unittest.TestCase):
    def test_rows_in_another_order_are_wrong_or_another_house(self):
        for first in range(len(SMALL)):
            for second in range(first + 1, len(SMALL)):
                rows = list(SMALL)
                rows[first], rows[second] = rows[second], rows[first]
                with self.assertRaises(BadRow) as caught:
                    read_house(rows)
                self.assertIn(caught.exception.at, range(first, second + 1))

    def test_names_of_rows_may_be_names_of_things(self):
        rows = ["price 1 1", "place next lit", "place price lit", "bar show thing", "thing place hand 0 1 2 3 next 4",
                "lend 1 place 1 2", "show bar 1 1 1 place", "next 2"]
        self.assertEqual(house_rows(read_house(rows)), rows)

    def test_many_names(self):
        rows = ["price 1 1"] + [f"place {name} lit" for name in letters(12)] + ["next 1"]
        self.assertEqual(house_rows(read_house(rows)), rows)


if __name__ == "__main__":
    unittest.main()
