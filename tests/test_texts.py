"""Points 1, 2, 3 and 10: a house written as rows, and read again."""

import copy
import unittest

from reckoning import made_parts, refusal

from candleroom.errors import BadHouse, BadText
from candleroom.houses import House
from candleroom.texts import read, written

PARTS = (
    4,
    [(10, 50, 5, 2), (0, 40, 3, 1), (7, 7, 0, 0)],
    [(0, 1, 4), (2, 1, 9)],
    [(0, 0, 2, 3, 5), (1, 1, 4, 2, 0)],
)

ROWS = [
    "hours 4",
    "room 10 50 5 2",
    "room 0 40 3 1",
    "room 7 7 0 0",
    "door 0 1 4",
    "door 2 1 9",
    "stay 0 0 2 3 5",
    "stay 1 1 4 2 0",
]


def parts_of(house):
    return (house.hours, house.rooms(), house.doors(), house.stays())


class WrittenTest(unittest.TestCase):
    def test_an_ordinary_house(self):
        self.assertEqual(written(House(*PARTS)), "\n".join(ROWS))

    def test_no_doors_and_no_stays(self):
        self.assertEqual(written(House(1, [(0, 0, 0, 0)], [], [])), "hours 1\nroom 0 0 0 0")

    def test_no_doors_but_stays_and_no_stays_but_doors(self):
        room = (1, 2, 3, 4)
        self.assertEqual(
            written(House(12, [room], [], [(0, 10, 12, 999, 2)])),
            "hours 12\nroom 1 2 3 4\nstay 0 10 12 999 2",
        )
        self.assertEqual(
            written(House(12, [room, room], [(1, 0, 0)], [])),
            "hours 12\nroom 1 2 3 4\nroom 1 2 3 4\ndoor 1 0 0",
        )


class ReadTest(unittest.TestCase):
    def assert_read_again(self, parts):
        house = read(written(House(*parts)))
        self.assertIs(type(house), House)
        self.assertEqual(parts_of(house), parts)
        for part in house.rooms() + house.doors() + house.stays():
            self.assertIs(type(part), tuple)
            for number in part:
                self.assertIs(type(number), int)
        self.assertIs(type(house.hours), int)

    def test_an_ordinary_house(self):
        self.assertEqual(parts_of(read("\n".join(ROWS))), PARTS)
        self.assert_read_again(PARTS)

    def test_no_doors_and_no_stays(self):
        self.assert_read_again((1, [(0, 0, 0, 0)], [], []))

    def test_all_counts_and_numbers_at_their_most(self):
        self.assert_read_again((
            12,
            [(999, 999, 999, 999)] * 6,
            [(0, 5, 999), (5, 0, 999)] * 4,
            [(5, 0, 12, 999, 999)] * 20,
        ))

    def test_houses_by_a_fixed_rule(self):
        for seed in range(100):
            with self.subTest(seed):
                self.assert_read_again(made_parts(seed, 1 + seed % 12, 6, 8, 20, 999))

    def test_a_house_that_was_read_is_as_any(self):
        house = read("\n".join(ROWS))
        self.assertEqual([house.use(0, hour) for hour in range(4)], [3, 3, 0, 0])
        self.assertEqual([house.least(0, hour) for hour in range(4)], [5, 5, 0, 0])


class BadTextTest(unittest.TestCase):
    def assert_bad(self, text, row):
        with self.subTest(text):
            self.assertEqual(refusal(self, BadText, read, text).row, row)

    def assert_bad_row(self, row):
        """Put the row in place of one of its sort, and hold it refused there."""
        at = {"hours": 0, "room": 2, "door": 5, "stay": 7}[row.split()[0].lower()]
        self.assert_bad("\n".join(ROWS[:at] + [row] + ROWS[at + 1:]), at)

    def test_an_empty_text(self):
        self.assert_bad("", 0)

    def test_a_wrong_first_row(self):
        for row in ("room 0 0 0 0", "door 0 1 0", "stay 0 0 1 0 0", "", "hour 4", "4", "house"):
            self.assert_bad("\n".join([row] + ROWS), 0)
            self.assert_bad("\n".join([row] + ROWS[1:]), 0)
            self.assert_bad(row, 0)

    def test_an_empty_row(self):
        for at in range(len(ROWS) + 1):
            self.assert_bad("\n".join(ROWS[:at] + [""] + ROWS[at:]), at)

    def test_a_line_end_behind_the_last_row(self):
        self.assert_bad("\n".join(ROWS) + "\n", len(ROWS))
        self.assert_bad("\n".join(ROWS) + "\n\n", len(ROWS))
        self.assert_bad("hours 1\n", 1)

    def test_a_line_end_of_another_kind(self):
        self.assert_bad("\r\n".join(ROWS), 0)
        self.assert_bad("\r".join(ROWS), 0)
        self.assert_bad("\n".join(ROWS) + "\r", len(ROWS) - 1)
        for sign in "\x0b\x0c\x1c\x85\u2028":
            self.assert_bad("\n".join(ROWS[:3]) + sign + "\n".join(ROWS[3:]), 2)

    def test_a_word_too_few_or_too_many(self):
        for row in (
            "hours", "hours 4 4",
            "room", "room 1 2 3", "room 1 2 3 4 5",
            "door", "door 0 1", "door 0 1 4 4",
            "stay", "stay 0 0 1 1", "stay 0 0 1 1 1 1",
        ):
            self.assert_bad_row(row)

    def test_blanks(self):
        for row in (
            "hours  4", " hours 4", "hours 4 ", "hours\t4", "hours ",
            "room 1  2 3 4", " room 1 2 3 4", "room 1 2 3 4 ", "room 1\t2 3 4", "room  1 2 3 4",
            "room 1 2 3 ", "door 0 1  4", "door  1 4", "stay 0 0 1 1  1", " stay 0 0 1 1 1",
            "stay 0 0 1 1 ", "room 1\u00a02 3 4",
        ):
            self.assert_bad_row(row)

    def test_a_needless_0(self):
        for row in (
            "hours 04", "hours 00", "room 00 2 3 4", "room 1 02 3 4", "room 1 2 3 0004",
            "door 0 01 4", "stay 0 0 1 1 01", "stay 000 0 1 1 1",
        ):
            self.assert_bad_row(row)

    def test_a_sign_and_other_signs(self):
        for row in (
            "hours +4", "hours -4", "room -1 2 3 4", "room 1 +2 3 4", "door 0 -0 4",
            "stay 0 0 1 1 -1", "room 1_0 2 3 4", "room 1.0 2 3 4", "room 1e1 2 3 4",
            "room 0x1 2 3 4", "room a 2 3 4", "door 0 1 4,", "stay 0 0 1 1 1;",
        ):
            self.assert_bad_row(row)

    def test_a_number_of_five_figures(self):
        for row in (
            "hours 10000", "room 10000 2 3 4", "room 1 2 3 99999", "door 0 1 12345",
            "stay 0 0 1 1 100000", "stay 0 0 1 1 00001",
        ):
            self.assert_bad_row(row)

    def test_figures_that_are_not_0_to_9(self):
        for figure in ("\u0663", "\u00b2", "\uff11", "\u0967", "\u2460", "\u00bd"):
            for row in (f"hours {figure}", f"room 1 {figure} 3 4", f"door 0 1 1{figure}"):
                self.assert_bad_row(row)

    def test_a_word_that_is_not_so(self):
        for row in ("Hours 4", "HOURS 4", "Room 1 2 3 4", "DOOR 0 1 4", "Stay 0 0 1 1 1"):
            self.assert_bad_row(row)
        for word in ("hour", "rooms", "doors", "stays", "vent", "#", "1"):
            self.assert_bad("\n".join(ROWS[:3] + [word + " 1 2 3 4"] + ROWS[3:]), 3)

    def test_a_row_behind_one_of_a_later_sort(self):
        room, door, stay = "room 0 0 0 0", "door 0 1 0", "stay 0 0 1 0 0"
        self.assert_bad("\n".join(ROWS[:6] + [room] + ROWS[6:]), 6)
        self.assert_bad("\n".join(ROWS + [room]), 8)
        self.assert_bad("\n".join(ROWS + [door]), 8)
        self.assert_bad("\n".join(["hours 1", door, room]), 2)
        self.assert_bad("\n".join(["hours 1", stay, room]), 2)
        self.assert_bad("\n".join(["hours 1", stay, door]), 2)
        self.assert_bad("\n".join(["hours 1", room, stay, stay, door, room]), 4)

    def test_a_second_row_of_hours(self):
        for at in range(1, len(ROWS) + 1):
            self.assert_bad("\n".join(ROWS[:at] + ["hours 4"] + ROWS[at:]), at)
        self.assert_bad("hours 4\nhours 4", 1)

    def test_of_several_the_first_is_told(self):
        self.assert_bad("hours 4\nroom 1 2 3 4\ndoor 0 1\nstay 0", 2)
        self.assert_bad("hours 4\nroom 1 2 3 4\nhours 4\nstay 0", 2)
        self.assert_bad("hours 4\nstay 0\nroom 1 2 3 4", 1)
        self.assert_bad("hours\nroom", 0)

    def test_it_goes_ahead_of_bad_house(self):
        self.assert_bad("hours 0\nroom 2 1 0 0\ndoor 0 0 0\nstay 9 9 9 9 ", 3)
        self.assert_bad("hours 9999\n", 1)
        self.assert_bad("\n".join(["hours 13"] + ["room 9 0 0 0"] * 9 + ["Room 0 0 0 0"]), 10)


class BadHouseTest(unittest.TestCase):
    def assert_bad(self, rows, word, number):
        with self.subTest(rows):
            error = refusal(self, BadHouse, read, "\n".join(rows))
            self.assertEqual((error.word, error.number), (word, number))

    def test_hours(self):
        for hours in ("0", "13", "100", "9999"):
            self.assert_bad([f"hours {hours}"] + ROWS[1:], "hours", 0)

    def test_too_many_or_too_few_parts(self):
        hours, room, door, stay = "hours 1", "room 0 0 0 0", "door 0 1 0", "stay 0 0 1 0 0"
        self.assert_bad([hours], "rooms", 0)
        self.assert_bad([hours, door], "rooms", 0)
        self.assert_bad([hours, stay], "rooms", 0)
        self.assert_bad([hours] + [room] * 7, "rooms", 0)
        self.assert_bad([hours, room, room] + [door] * 9, "doors", 0)
        self.assert_bad([hours, room] + [stay] * 21, "stays", 0)
        self.assert_bad([hours, room, room] + [door] * 9 + [stay] * 21, "doors", 0)

    def test_a_part_that_cannot_be(self):
        self.assert_bad(ROWS[:2] + ["room 8 7 0 0"] + ROWS[3:], "room", 1)
        self.assert_bad(ROWS[:3] + ["room 1 1000 0 0"] + ROWS[4:], "room", 2)
        self.assert_bad(ROWS[:4] + ["door 1 1 0"] + ROWS[5:], "door", 0)
        self.assert_bad(ROWS[:5] + ["door 0 3 0"] + ROWS[6:], "door", 1)
        self.assert_bad(ROWS[:5] + ["door 0 2 9999"] + ROWS[6:], "door", 1)
        self.assert_bad(ROWS[:7] + ["stay 0 1 1 0 0"], "stay", 1)
        self.assert_bad(ROWS[:7] + ["stay 0 1 5 0 0"], "stay", 1)
        self.assert_bad(ROWS[:6] + ["stay 0 1 2 0 51"] + ROWS[7:], "stay", 0)


class NothingKeptTest(unittest.TestCase):
    def test_the_house_is_not_changed(self):
        parts = copy.deepcopy(PARTS)
        house = House(*parts)
        first = written(house)
        self.assertEqual(parts_of(house), PARTS)
        parts[1].clear()
        self.assertEqual(written(house), first)

    def test_what_is_told_is_new_each_time(self):
        text = "\n".join(ROWS)
        house = read(text)
        self.assertIsNot(read(text), house)
        house.rooms().clear()
        house.hours = 1
        self.assertEqual(parts_of(read(text)), PARTS)

    def test_the_same_text_is_refused_the_same_again(self):
        for _ in range(2):
            self.assertEqual(refusal(self, BadText, read, "hours 1\nroom").row, 1)


if __name__ == "__main__":
    unittest.main()
