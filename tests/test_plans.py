"""Points 1, 5 and 6: the air behind a plan's hours, its cost and its fault."""

import copy
import unittest

from candleroom.errors import AirError, BadHouse, BadPlan, BadText, Broken, NoPlan
from candleroom.houses import House
from candleroom.plans import airs, cost, fault


def two_rooms():
    """A house of three hours whose one door goes from room 1 to room 0."""
    return House(
        3,
        [(10, 20, 4, 5), (6, 9, 3, 2)],
        [(1, 0, 4)],
        [(0, 0, 2, 3, 7), (1, 1, 3, 2, 4), (0, 1, 2, 1, 2)],
    )


GOOD = [([0, 3], [1]), ([4, 0], [-1]), ([1, 2], [0])]


def one_room(air, most, limit, stays=()):
    return House(1, [(air, most, limit, 1)], [], list(stays))


class AirsTest(unittest.TestCase):
    def test_an_ordinary_plan(self):
        self.assertEqual(airs(two_rooms(), GOOD), [[8, 8], [7, 7], [8, 7]])

    def test_a_flow_goes_from_the_one_room_to_the_other(self):
        house = House(1, [(5, 9, 0, 0)] * 3, [(0, 2, 9), (2, 1, 9)], [])
        self.assertEqual(airs(house, [([0, 0, 0], [2, 0])]), [[3, 5, 7]])
        self.assertEqual(airs(house, [([0, 0, 0], [-2, 0])]), [[7, 5, 3]])
        self.assertEqual(airs(house, [([0, 0, 0], [0, 3])]), [[5, 8, 2]])
        self.assertEqual(airs(house, [([0, 0, 0], [1, -1])]), [[4, 4, 7]])

    def test_two_doors_between_the_same_rooms(self):
        house = House(1, [(5, 9, 0, 0)] * 2, [(0, 1, 9), (1, 0, 9), (0, 1, 9)], [])
        self.assertEqual(airs(house, [([0, 0], [1, 2, -1])]), [[7, 3]])

    def test_each_hour_begins_with_what_was_left(self):
        house = House(12, [(0, 999, 9, 1)], [], [(0, 6, 12, 1, 0)])
        plan = [([2], [])] * 12
        self.assertEqual(
            airs(house, plan),
            [[2], [4], [6], [8], [10], [12], [13], [14], [15], [16], [17], [18]],
        )

    def test_air_below_0_is_told_so_and_carried_on(self):
        house = House(2, [(1, 9, 9, 1)], [], [(0, 0, 1, 5, 0)])
        self.assertEqual(airs(house, [([0], []), ([1], [])]), [[-4], [-3]])

    def test_air_above_the_most_is_told_so_and_carried_on(self):
        house = House(2, [(8, 9, 9, 1)], [], [(0, 1, 2, 2, 0)])
        self.assertEqual(airs(house, [([4], []), ([0], [])]), [[12], [10]])

    def test_limits_do_not_matter(self):
        house = House(1, [(5, 9, 1, 1), (5, 9, 1, 1)], [(0, 1, 1)], [])
        self.assertEqual(airs(house, [([-3, 70], [9])]), [[-7, 84]])

    def test_the_smallest_house(self):
        self.assertEqual(airs(one_room(0, 0, 0), [([0], [])]), [[0]])

    def test_the_largest_numbers(self):
        house = House(1, [(999, 999, 999, 999)], [], [(0, 0, 1, 999, 999)] * 20)
        self.assertEqual(airs(house, [([999], [])]), [[999 + 999 - 20 * 999]])


class CostTest(unittest.TestCase):
    def test_each_unit_costs_its_room_s_price(self):
        self.assertEqual(cost(two_rooms(), GOOD), 3 * 2 + 4 * 5 + 1 * 5 + 2 * 2)

    def test_nothing_vented_costs_nothing(self):
        self.assertEqual(cost(two_rooms(), [([0, 0], [2])] * 3), 0)

    def test_a_price_of_0_and_of_999(self):
        house = House(12, [(0, 0, 999, 0), (0, 0, 999, 999)], [], [])
        self.assertEqual(cost(house, [([999, 0], [])] * 12), 0)
        self.assertEqual(cost(house, [([0, 999], [])] * 12), 12 * 999 * 999)

    def test_a_plan_that_is_not_good_costs_too(self):
        house = House(1, [(0, 0, 1, 3)], [], [])
        self.assertEqual(cost(house, [([50], [])]), 150)
        self.assertEqual(cost(house, [([-2], [])]), -6)


class FaultTest(unittest.TestCase):
    def test_a_good_plan_has_none(self):
        self.assertIsNone(fault(two_rooms(), GOOD))
        self.assertIsNone(fault(one_room(0, 0, 0), [([0], [])]))

    def test_a_vent_lets_in_from_0_to_its_limit(self):
        for vent, told in ((-1, (0, -1)), (0, None), (4, None), (5, (0, -1)), (999, (0, -1))):
            with self.subTest(vent):
                self.assertEqual(fault(one_room(5, 20, 4), [([vent], [])]), told)

    def test_a_vent_with_the_limit_0(self):
        for vent, told in ((-1, (0, -1)), (0, None), (1, (0, -1))):
            with self.subTest(vent):
                self.assertEqual(fault(one_room(5, 20, 0), [([vent], [])]), told)

    def test_a_door_keeps_its_limit_either_way(self):
        house = House(1, [(9, 20, 0, 0), (9, 20, 0, 0)], [(0, 1, 4)], [])
        for flow, told in (
            (-5, (0, -1)), (-4, None), (-1, None), (0, None),
            (1, None), (4, None), (5, (0, -1)),
        ):
            with self.subTest(flow):
                self.assertEqual(fault(house, [([0, 0], [flow])]), told)

    def test_a_door_with_the_limit_0(self):
        house = House(1, [(9, 20, 0, 0), (9, 20, 0, 0)], [(0, 1, 0)], [])
        for flow, told in ((-1, (0, -1)), (0, None), (1, (0, -1))):
            with self.subTest(flow):
                self.assertEqual(fault(house, [([0, 0], [flow])]), told)

    def test_each_vent_and_each_door_counts(self):
        house = House(1, [(9, 20, 3, 0), (9, 20, 2, 0)], [(0, 1, 4), (1, 0, 2)], [])
        for vents, flows in (
            ([4, 0], [0, 0]), ([0, 3], [0, 0]), ([0, 0], [5, 0]), ([0, 0], [0, -3]),
        ):
            with self.subTest(vents=vents, flows=flows):
                self.assertEqual(fault(house, [(vents, flows)]), (0, -1))
        self.assertIsNone(fault(house, [([3, 2], [4, -2])]))

    def test_a_room_has_what_must_be_left(self):
        stays = [(0, 0, 1, 2, 3), (0, 0, 1, 1, 5)]
        for air, told in ((8, None), (7, (0, 0)), (9, None)):
            with self.subTest(air):
                self.assertEqual(fault(one_room(air, 10, 0, stays), [([0], [])]), told)

    def test_a_need_that_is_just_the_room_s_most(self):
        stays = [(0, 0, 1, 0, 10)]
        for air, told in ((9, (0, 0)), (10, None)):
            with self.subTest(air):
                self.assertEqual(fault(one_room(air, 10, 0, stays), [([0], [])]), told)
        self.assertEqual(fault(one_room(10, 10, 1, stays), [([1], [])]), (0, 0))

    def test_a_room_holds_no_more_than_its_most(self):
        for vent, told in ((0, None), (2, None), (3, (0, 0))):
            with self.subTest(vent):
                self.assertEqual(fault(one_room(8, 10, 5), [([vent], [])]), told)

    def test_a_room_without_stays_has_no_air_below_0(self):
        house = House(1, [(2, 9, 0, 0), (2, 9, 0, 0)], [(0, 1, 5)], [])
        for flow, told in ((2, None), (3, (0, 0)), (-2, None), (-3, (0, 1))):
            with self.subTest(flow):
                self.assertEqual(fault(house, [([0, 0], [flow])]), told)

    def test_only_what_is_behind_the_hour_counts(self):
        # Ahead of the uses the room would hold 13 of 10, and 0 of the need's 5.
        house = House(1, [(0, 10, 13, 1)], [], [(0, 0, 1, 4, 5)])
        self.assertIsNone(fault(house, [([13], [])]))

    def test_the_first_hour_is_told(self):
        house = House(3, [(5, 10, 3, 1)], [], [(0, 0, 3, 1, 2)])
        self.assertIsNone(fault(house, [([0], []), ([0], []), ([0], [])]))
        self.assertEqual(fault(house, [([0], []), ([0], []), ([4], [])]), (2, -1))
        self.assertEqual(fault(house, [([0], []), ([-1], []), ([4], [])]), (1, -1))
        self.assertEqual(fault(house, [([9], []), ([-1], []), ([4], [])]), (0, -1))

    def test_a_room_s_fault_goes_ahead_of_a_later_hour_s_limit(self):
        house = House(2, [(5, 5, 3, 1)], [], [])
        self.assertEqual(fault(house, [([1], []), ([4], [])]), (0, 0))

    def test_a_limit_goes_ahead_of_a_room_in_the_same_hour(self):
        house = House(1, [(9, 9, 3, 1), (9, 9, 3, 1)], [(0, 1, 2)], [])
        self.assertEqual(fault(house, [([1, 4], [0])]), (0, -1))
        self.assertEqual(fault(house, [([1, 0], [3])]), (0, -1))

    def test_the_first_room_is_told(self):
        house = House(1, [(9, 9, 3, 1)] * 6, [], [])
        self.assertEqual(fault(house, [([0, 0, 1, 0, 1, 1], [])]), (0, 2))
        self.assertEqual(fault(house, [([0, 0, 0, 0, 0, 1], [])]), (0, 5))

    def test_too_little_and_too_much_are_one_as_the_other(self):
        house = House(1, [(2, 9, 3, 1), (9, 9, 3, 1)], [(0, 1, 9)], [])
        self.assertEqual(fault(house, [([0, 0], [3])]), (0, 0))
        self.assertEqual(fault(house, [([0, 1], [0])]), (0, 1))

    def test_needs_are_those_of_the_hour(self):
        house = House(3, [(9, 9, 9, 1)], [], [(0, 0, 3, 2, 0), (0, 1, 2, 0, 6)])
        self.assertEqual(fault(house, [([0], []), ([0], []), ([0], [])]), (1, 0))
        self.assertIsNone(fault(house, [([0], []), ([1], []), ([0], [])]))

    def test_a_later_hour_may_be_short_of_what_an_earlier_one_used(self):
        house = House(2, [(3, 9, 9, 1)], [], [(0, 0, 2, 2, 0)])
        self.assertEqual(fault(house, [([0], []), ([0], [])]), (1, 0))

    def test_the_air_at_first_is_held_against_nothing(self):
        house = House(1, [(0, 9, 9, 1)], [], [(0, 0, 1, 0, 9)])
        self.assertIsNone(fault(house, [([9], [])]))

    def test_the_last_hour_and_room_of_the_largest_house(self):
        house = House(12, [(999, 999, 999, 999)] * 6, [(0, 5, 999)] * 8, [(5, 11, 12, 1, 999)])
        plan = [([0] * 6, [0] * 8) for _ in range(12)]
        self.assertEqual(fault(house, plan), (11, 5))
        plan[11][0][5] = 1
        self.assertIsNone(fault(house, plan))

    def test_a_pair_is_told(self):
        self.assertIs(type(fault(one_room(5, 5, 0), [([1], [])])), tuple)
        self.assertIs(type(fault(one_room(5, 5, 1), [([1], [])])), tuple)


class BadPlanTest(unittest.TestCase):
    WRONG = {
        "no hour": [],
        "an hour too few": GOOD[:2],
        "an hour too many": GOOD + GOOD[:1],
        "a vent too few at first": [([0], [1]), *GOOD[1:]],
        "a vent too many at last": [*GOOD[:2], ([1, 2, 0], [0])],
        "no vent": [GOOD[0], ([], [-1]), GOOD[2]],
        "no flow": [([0, 3], []), *GOOD[1:]],
        "a flow too many at last": [*GOOD[:2], ([1, 2], [0, 0])],
        "vents and flows changed about": [([0], [3, 1]), *GOOD[1:]],
        "a wrong count behind a fault": [([99, 99], [99]), GOOD[1], ([1], [0])],
    }

    def test_a_wrong_count_is_refused_by_each(self):
        for name, plan in self.WRONG.items():
            for told in (airs, cost, fault):
                with self.subTest(name, by=told.__name__):
                    with self.assertRaises(BadPlan):
                        told(two_rooms(), plan)

    def test_a_house_without_doors_has_no_flow(self):
        for told in (airs, cost, fault):
            with self.subTest(told.__name__):
                with self.assertRaises(BadPlan):
                    told(one_room(5, 5, 0), [([0], [0])])

    def test_the_refusal_is_no_other(self):
        for told in (airs, cost, fault):
            with self.subTest(told.__name__):
                with self.assertRaises(BadPlan) as caught:
                    told(two_rooms(), [])
                self.assertIsInstance(caught.exception, AirError)
                self.assertIsInstance(caught.exception, ValueError)
                self.assertNotIsInstance(caught.exception, (BadHouse, Broken, NoPlan, BadText))


class NothingKeptTest(unittest.TestCase):
    def test_house_and_plan_are_not_changed(self):
        house = two_rooms()
        parts = (house.hours, house.rooms(), house.doors(), house.stays())
        for plan in (GOOD, [([9, -9], [9])] * 3, GOOD[:2]):
            handed = copy.deepcopy(plan)
            for told in (airs, cost, fault):
                with self.subTest(told.__name__, plan=plan):
                    try:
                        told(house, handed)
                    except BadPlan:
                        pass
                    self.assertEqual(handed, plan)
                    now = (house.hours, house.rooms(), house.doors(), house.stays())
                    self.assertEqual(now, parts)

    def test_the_caller_may_change_the_plan(self):
        house, plan = two_rooms(), copy.deepcopy(GOOD)
        first = airs(house, plan)
        plan[0][0][1] = 0
        plan[2][1][0] = 1
        self.assertEqual(first, [[8, 8], [7, 7], [8, 7]])
        self.assertEqual(airs(house, plan), [[8, 5], [7, 4], [9, 3]])
        self.assertEqual(cost(house, plan), 4 * 5 + 1 * 5 + 2 * 2)
        self.assertEqual(fault(house, plan), (2, 1))

    def test_the_caller_may_change_the_airs_that_were_told(self):
        house = two_rooms()
        told = airs(house, GOOD)
        told[0][0] = 99
        told.pop()
        self.assertEqual(airs(house, GOOD), [[8, 8], [7, 7], [8, 7]])
        self.assertEqual(house.rooms(), [(10, 20, 4, 5), (6, 9, 3, 2)])

    def test_each_hour_has_a_list_of_its_own(self):
        house = House(2, [(3, 9, 0, 0)], [], [])
        told = airs(house, [([0], [])] * 2)
        told[0][0] = 99
        self.assertEqual(told, [[99], [3]])


if __name__ == "__main__":
    unittest.main()
