"""Points 1 to 4: what a house is, and what is used and left in it."""

import copy
import unittest

from candleroom.errors import AirError, BadHouse, BadPlan, BadText, Broken, NoPlan
from candleroom.houses import House

ROOMS = [(10, 50, 5, 2), (0, 40, 3, 1), (7, 7, 0, 0)]
DOORS = [(0, 1, 4), (2, 1, 9)]
STAYS = [(0, 0, 2, 3, 5), (1, 1, 4, 2, 0), (0, 1, 3, 4, 2)]


def refusal(hours, rooms, doors, stays):
    """Tell the pair (word, number) of the refusal, or None for a house."""
    try:
        House(hours, rooms, doors, stays)
    except BadHouse as error:
        return (error.word, error.number)
    return None


class HouseTest(unittest.TestCase):
    def test_an_ordinary_house_is_as_handed_in(self):
        house = House(4, ROOMS, DOORS, STAYS)
        self.assertEqual(house.hours, 4)
        self.assertEqual(house.rooms(), ROOMS)
        self.assertEqual(house.doors(), DOORS)
        self.assertEqual(house.stays(), STAYS)
        for told in (house.rooms(), house.doors(), house.stays()):
            self.assertIs(type(told), list)
            for part in told:
                self.assertIs(type(part), tuple)

    def test_the_smallest_house(self):
        house = House(1, [(0, 0, 0, 0)], [], [])
        self.assertEqual(house.hours, 1)
        self.assertEqual(house.rooms(), [(0, 0, 0, 0)])
        self.assertEqual(house.doors(), [])
        self.assertEqual(house.stays(), [])

    def test_the_largest_house(self):
        rooms = [(999, 999, 999, 999)] * 6
        doors = [(0, 5, 999), (5, 0, 999)] * 4
        stays = [(5, 0, 12, 999, 999)] * 20
        house = House(12, rooms, doors, stays)
        self.assertEqual(house.hours, 12)
        self.assertEqual(house.rooms(), rooms)
        self.assertEqual(house.doors(), doors)
        self.assertEqual(house.stays(), stays)
        self.assertEqual(house.use(5, 11), 20 * 999)
        self.assertEqual(house.least(5, 11), 999)

    def test_the_order_of_a_house_s_lists_is_kept(self):
        house = House(4, ROOMS[::-1], DOORS[::-1], STAYS[:1] + STAYS[:0:-1])
        self.assertEqual(house.rooms(), ROOMS[::-1])
        self.assertEqual(house.doors(), DOORS[::-1])
        self.assertEqual(house.stays(), [STAYS[0], STAYS[2], STAYS[1]])


class NothingKeptTest(unittest.TestCase):
    def test_what_is_handed_in_is_not_changed(self):
        handed = ([*ROOMS], [*DOORS], [*STAYS])
        before = copy.deepcopy(handed)
        house = House(4, *handed)
        house.use(0, 1)
        house.least(0, 1)
        self.assertEqual(handed, before)

    def test_what_is_refused_is_not_changed(self):
        handed = ([*ROOMS], [*DOORS], [*STAYS, (9, 0, 1, 0, 0)])
        before = copy.deepcopy(handed)
        self.assertEqual(refusal(4, *handed), ("stay", 3))
        self.assertEqual(handed, before)

    def test_the_caller_may_change_what_was_handed_in(self):
        rooms, doors, stays = [*ROOMS], [*DOORS], [*STAYS]
        house = House(4, rooms, doors, stays)
        rooms[0] = (1, 1, 1, 1)
        rooms.append((2, 2, 2, 2))
        doors.clear()
        stays.pop()
        stays[0] = (2, 0, 4, 9, 7)
        self.assertEqual(house.rooms(), ROOMS)
        self.assertEqual(house.doors(), DOORS)
        self.assertEqual(house.stays(), STAYS)
        self.assertEqual(house.use(0, 1), 7)
        self.assertEqual(house.least(0, 1), 5)
        self.assertEqual(house.use(2, 1), 0)

    def test_the_caller_may_change_what_was_told(self):
        house = House(4, ROOMS, DOORS, STAYS)
        house.rooms().clear()
        house.doors()[0] = (0, 2, 1)
        house.stays().append((2, 0, 1, 1, 1))
        house.stays()[0] = (2, 0, 4, 9, 7)
        self.assertEqual(house.rooms(), ROOMS)
        self.assertEqual(house.doors(), DOORS)
        self.assertEqual(house.stays(), STAYS)
        self.assertEqual(house.use(0, 0), 3)
        self.assertEqual(house.least(2, 0), 0)


class WantsTest(unittest.TestCase):
    def told(self, method):
        return [[method(room, hour) for hour in range(4)] for room in range(3)]

    def test_uses_are_summed(self):
        house = House(4, ROOMS, DOORS, STAYS)
        self.assertEqual(self.told(house.use), [[3, 7, 4, 0], [0, 2, 2, 2], [0, 0, 0, 0]])

    def test_the_greatest_need_counts(self):
        house = House(4, ROOMS, DOORS, STAYS)
        self.assertEqual(self.told(house.least), [[5, 5, 2, 0], [0, 0, 0, 0], [0, 0, 0, 0]])

    def test_the_order_of_stays_does_not_matter(self):
        house = House(4, ROOMS, DOORS, STAYS[::-1])
        self.assertEqual(self.told(house.use), [[3, 7, 4, 0], [0, 2, 2, 2], [0, 0, 0, 0]])
        self.assertEqual(self.told(house.least), [[5, 5, 2, 0], [0, 0, 0, 0], [0, 0, 0, 0]])

    def test_a_stay_of_one_hour(self):
        house = House(12, [(0, 9, 0, 0)], [], [(0, 11, 12, 6, 9)])
        self.assertEqual([house.use(0, hour) for hour in range(12)], [0] * 11 + [6])
        self.assertEqual([house.least(0, hour) for hour in range(12)], [0] * 11 + [9])

    def test_a_need_without_a_use_and_a_use_without_a_need(self):
        house = House(1, [(0, 9, 0, 0), (0, 9, 0, 0)], [], [(0, 0, 1, 0, 4), (1, 0, 1, 4, 0)])
        self.assertEqual([house.use(0, 0), house.use(1, 0)], [0, 4])
        self.assertEqual([house.least(0, 0), house.least(1, 0)], [4, 0])

    def test_equal_stays_count_each(self):
        house = House(1, [(0, 9, 0, 0)], [], [(0, 0, 1, 3, 4)] * 2)
        self.assertEqual(house.use(0, 0), 6)
        self.assertEqual(house.least(0, 0), 4)

    def test_somewhat_beyond_the_house_nothing_is_wanted(self):
        house = House(1, [(0, 9, 0, 0)], [], [(0, 0, 1, 3, 4)])
        for room, hour in ((0, 1), (0, -1), (1, 0), (-1, 0)):
            with self.subTest(room=room, hour=hour):
                self.assertEqual((house.use(room, hour), house.least(room, hour)), (0, 0))


class CountsTest(unittest.TestCase):
    def test_hours(self):
        for hours in (0, 13, -1, 1000):
            with self.subTest(hours):
                self.assertEqual(refusal(hours, [(0, 0, 0, 0)], [], []), ("hours", 0))
        for hours in (1, 12):
            with self.subTest(hours):
                self.assertIsNone(refusal(hours, [(0, 0, 0, 0)], [], []))

    def test_rooms(self):
        for many in (0, 7, 8):
            with self.subTest(many):
                self.assertEqual(refusal(1, [(0, 0, 0, 0)] * many, [], []), ("rooms", 0))
        for many in (1, 6):
            with self.subTest(many):
                self.assertIsNone(refusal(1, [(0, 0, 0, 0)] * many, [], []))

    def test_doors(self):
        rooms = [(0, 0, 0, 0)] * 2
        for many in (9, 10):
            with self.subTest(many):
                self.assertEqual(refusal(1, rooms, [(0, 1, 0)] * many, []), ("doors", 0))
        for many in (0, 8):
            with self.subTest(many):
                self.assertIsNone(refusal(1, rooms, [(0, 1, 0)] * many, []))

    def test_stays(self):
        rooms = [(0, 0, 0, 0)]
        for many in (21, 22):
            with self.subTest(many):
                self.assertEqual(refusal(1, rooms, [], [(0, 0, 1, 0, 0)] * many), ("stays", 0))
        for many in (0, 20):
            with self.subTest(many):
                self.assertIsNone(refusal(1, rooms, [], [(0, 0, 1, 0, 0)] * many))


class PartsTest(unittest.TestCase):
    def assert_part(self, word, part, can_be):
        """Hold the part, put behind one that can be, against a house of 4 hours."""
        rooms, doors, stays = [*ROOMS], [*DOORS], [*STAYS]
        parts = {"room": rooms, "door": doors, "stay": stays}[word]
        parts.append(part)
        number = len(parts) - 1
        with self.subTest(word, part=part):
            wrong = None if can_be else (word, number)
            self.assertEqual(refusal(4, rooms, doors, stays), wrong)

    def test_each_number_of_a_room(self):
        for at in range(4):
            for number, can_be in ((-1, False), (0, True), (999, True), (1000, False)):
                room = [0, 999, 0, 0] if at != 1 else [0, 0, 0, 0]
                room[at] = number
                self.assert_part("room", tuple(room), can_be)

    def test_a_room_whose_numbers_are_all_beyond(self):
        self.assert_part("room", (1000, 1000, 0, 0), False)
        self.assert_part("room", (-2, -1, 0, 0), False)

    def test_air_is_no_more_than_most(self):
        self.assert_part("room", (5, 5, 0, 0), True)
        self.assert_part("room", (5, 6, 0, 0), True)
        self.assert_part("room", (6, 5, 0, 0), False)

    def test_a_door_joins_two_unlike_rooms_of_the_house(self):
        for one, other, can_be in (
            (0, 1, True), (1, 0, True), (0, 2, True), (2, 0, True),
            (0, 0, False), (2, 2, False),
            (0, 3, False), (3, 0, False), (3, 4, False), (3, 3, False),
            (-1, 0, False), (0, -1, False),
        ):
            self.assert_part("door", (one, other, 5), can_be)

    def test_the_limit_of_a_door(self):
        for limit, can_be in ((-1, False), (0, True), (999, True), (1000, False)):
            self.assert_part("door", (0, 1, limit), can_be)

    def test_two_doors_may_join_the_same_rooms(self):
        self.assert_part("door", DOORS[0], True)

    def test_the_room_of_a_stay(self):
        for room, can_be in ((-1, False), (0, True), (2, True), (3, False), (1000, False)):
            self.assert_part("stay", (room, 0, 1, 0, 0), can_be)

    def test_the_hours_of_a_stay(self):
        for begin, end, can_be in (
            (0, 1, True), (0, 4, True), (3, 4, True),
            (0, 0, False), (2, 2, False), (3, 2, False), (1, 0, False),
            (0, 5, False), (3, 5, False), (4, 4, False), (4, 5, False),
            (-1, 1, False), (-2, -1, False), (0, -1, False),
        ):
            self.assert_part("stay", (1, begin, end, 0, 0), can_be)

    def test_the_use_of_a_stay(self):
        for use, can_be in ((-1, False), (0, True), (999, True), (1000, False)):
            self.assert_part("stay", (0, 0, 1, use, 0), can_be)

    def test_the_need_of_a_stay_is_no_more_than_its_room_s_most(self):
        for room, need, can_be in (
            (0, 50, True), (0, 51, False),
            (1, 40, True), (1, 41, False), (1, 50, False),
            (2, 7, True), (2, 8, False),
            (0, 0, True), (0, -1, False),
        ):
            self.assert_part("stay", (room, 0, 1, 0, need), can_be)

    def test_the_greatest_need(self):
        rooms = [(0, 999, 0, 0)]
        self.assertIsNone(refusal(1, rooms, [], [(0, 0, 1, 0, 999)]))
        self.assertEqual(refusal(1, rooms, [], [(0, 0, 1, 0, 1000)]), ("stay", 0))

    def test_a_stay_wants_more_than_its_room_has_at_first(self):
        self.assert_part("stay", (1, 0, 1, 999, 40), True)

    def test_the_last_part_that_there_may_be(self):
        room, bad_room = (0, 0, 0, 0), (1, 0, 0, 0)
        door, bad_door = (0, 1, 0), (0, 0, 0)
        stay, bad_stay = (0, 0, 1, 0, 0), (0, 1, 1, 0, 0)
        self.assertEqual(refusal(1, [room] * 5 + [bad_room], [], []), ("room", 5))
        self.assertEqual(refusal(1, [room] * 2, [door] * 7 + [bad_door], []), ("door", 7))
        self.assertEqual(refusal(1, [room], [], [stay] * 19 + [bad_stay]), ("stay", 19))


class FirstWrongTest(unittest.TestCase):
    BAD_ROOM = (1, 0, 0, 0)
    BAD_DOOR = (1, 1, 0)
    BAD_STAY = (0, 1, 1, 0, 0)

    def test_of_everything_wrong_the_first_is_told(self):
        wrong = (0, [self.BAD_ROOM] * 7, [self.BAD_DOOR] * 9, [self.BAD_STAY] * 21)
        mended = (
            (1, "hours"), ([(0, 0, 0, 0)] * 2, "rooms"),
            ([(0, 1, 0)], "doors"), ([], "stays"),
        )
        parts = [*wrong]
        for at, (part, word) in enumerate(mended):
            with self.subTest(word):
                self.assertEqual(refusal(*parts), (word, 0))
            parts[at] = part
        self.assertIsNone(refusal(*parts))

    def test_a_wrong_count_goes_ahead_of_every_wrong_part(self):
        rooms = [self.BAD_ROOM]
        self.assertEqual(refusal(1, rooms, [], [self.BAD_STAY] * 21), ("stays", 0))
        self.assertEqual(refusal(1, rooms, [self.BAD_DOOR] * 9, []), ("doors", 0))
        self.assertEqual(refusal(13, rooms, [], []), ("hours", 0))
        self.assertEqual(refusal(1, [], [self.BAD_DOOR], [self.BAD_STAY]), ("rooms", 0))

    def test_rooms_go_ahead_of_doors_and_doors_ahead_of_stays(self):
        room = (0, 0, 0, 0)
        doors, stays = [self.BAD_DOOR], [self.BAD_STAY]
        self.assertEqual(refusal(1, [room, room, self.BAD_ROOM], doors, stays), ("room", 2))
        self.assertEqual(refusal(1, [room] * 3, [(0, 1, 0), *doors], stays), ("door", 1))
        self.assertEqual(refusal(1, [room] * 3, [(0, 1, 0)], stays), ("stay", 0))

    def test_the_first_of_several_of_one_sort(self):
        room, door, stay = (0, 0, 0, 0), (0, 1, 0), (0, 0, 1, 0, 0)
        rooms = [room, self.BAD_ROOM, room, self.BAD_ROOM]
        doors = [door, door, self.BAD_DOOR, self.BAD_DOOR]
        stays = [stay, self.BAD_STAY, self.BAD_STAY, stay]
        self.assertEqual(refusal(1, rooms, [], []), ("room", 1))
        self.assertEqual(refusal(1, [room] * 4, doors, []), ("door", 2))
        self.assertEqual(refusal(1, [room] * 4, [], stays), ("stay", 1))

    def test_the_refusal_is_no_other(self):
        for parts in (
            (0, [(0, 0, 0, 0)], [], []),
            (1, [], [], []),
            (1, [self.BAD_ROOM], [], []),
            (1, [(0, 0, 0, 0)] * 2, [self.BAD_DOOR], []),
            (1, [(0, 0, 0, 0)], [], [self.BAD_STAY]),
        ):
            with self.subTest(parts):
                with self.assertRaises(BadHouse) as caught:
                    House(*parts)
                self.assertIsInstance(caught.exception, AirError)
                self.assertIsInstance(caught.exception, ValueError)
                self.assertNotIsInstance(caught.exception, (BadPlan, Broken, NoPlan, BadText))


if __name__ == "__main__":
    unittest.main()
