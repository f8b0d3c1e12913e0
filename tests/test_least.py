"""Points 1, 6, 7 and 8: the least plan, its cost and prices, or what is short."""

import copy
import unittest

from reckoning import (
    airs, bound, cost, is_good, lack, least_cost, made_parts, need, refusal, use,
)

from candleroom.errors import NoPlan
from candleroom.houses import House
from candleroom.least import least


class LeastCase(unittest.TestCase):
    def assert_form(self, parts, told):
        """Hold what least told against the kinds that the document tells."""
        hours, rooms, doors, _ = parts
        self.assertIs(type(told), tuple)
        plan, whole, prices = told
        self.assertIs(type(whole), int)
        self.assertIs(type(plan), list)
        self.assertEqual(len(plan), hours)
        for pair in plan:
            self.assertIs(type(pair), tuple)
            vents, flows = pair
            self.assert_numbers(vents, len(rooms))
            self.assert_numbers(flows, len(doors))
        self.assertIs(type(prices), list)
        self.assertEqual(len(prices), hours)
        for row in prices:
            self.assert_numbers(row, len(rooms))

    def assert_numbers(self, row, many):
        self.assertIs(type(row), list)
        self.assertEqual(len(row), many)
        for number in row:
            self.assertIs(type(number), int)

    def assert_least(self, parts, whole=None):
        """Hold the plan, its cost and its prices against the document; tell the plan."""
        told = least(House(*parts))
        self.assert_form(parts, told)
        plan, told_cost, prices = told
        self.assertTrue(is_good(parts, plan), plan)
        self.assertEqual(cost(parts, plan), told_cost)
        self.assertEqual(bound(parts, prices), told_cost)
        if whole is not None:
            self.assertEqual(told_cost, whole)
        return plan

    def assert_short(self, parts, short=None):
        """Hold what is short against the document; tell it."""
        hours, rooms, _, _ = parts
        told = refusal(self, NoPlan, least, House(*parts)).short
        self.assertIs(type(told), list)
        for pair in told:
            self.assertIs(type(pair), tuple)
            hour, room = pair
            self.assertIs(type(hour), int)
            self.assertIs(type(room), int)
            self.assertTrue(0 <= hour < hours and 0 <= room < len(rooms), pair)
        self.assertEqual(told, sorted(set(told)))
        self.assertGreater(lack(parts, told), 0)
        if short is not None:
            self.assertEqual(told, short)
        return told


class OneRoomTest(LeastCase):
    def test_nothing_is_wanted(self):
        plan = self.assert_least((1, [(0, 0, 0, 0)], [], []), 0)
        self.assertEqual(plan, [([0], [])])
        self.assert_least((12, [(5, 9, 9, 7)], [], []), 0)

    def test_own_air_is_enough(self):
        plan = self.assert_least((2, [(9, 9, 9, 7)], [], [(0, 0, 2, 3, 3)]), 0)
        self.assertEqual(plan, [([0], []), ([0], [])])

    def test_only_what_is_short_is_vented(self):
        plan = self.assert_least((1, [(5, 9, 9, 7)], [], [(0, 0, 1, 6, 2)]), 21)
        self.assertEqual(plan, [([3], [])])

    def test_a_need_without_a_use(self):
        self.assert_least((3, [(1, 9, 9, 2)], [], [(0, 2, 3, 0, 9)]), 16)

    def test_a_use_without_a_need(self):
        self.assert_least((3, [(1, 9, 9, 2)], [], [(0, 2, 3, 9, 0)]), 16)

    def test_needs_of_several_stays_are_not_summed_but_uses_are(self):
        stays = [(0, 0, 1, 2, 4), (0, 0, 1, 3, 5), (0, 0, 1, 1, 0)]
        self.assert_least((1, [(0, 20, 20, 1)], [], stays), 6 + 5)

    def test_a_need_just_met_and_one_unit_short(self):
        for needed in (0, 1, 3, 4):
            with self.subTest(needed):
                vented = max(0, needed - 1)
                self.assert_least((1, [(5, 9, 3, 2)], [], [(0, 0, 1, 4, needed)]), 2 * vented)
        self.assert_short((1, [(5, 9, 3, 2)], [], [(0, 0, 1, 4, 5)]), [(0, 0)])

    def test_a_use_just_met_and_one_unit_short(self):
        self.assert_least((1, [(5, 9, 3, 2)], [], [(0, 0, 1, 8, 0)]), 6)
        self.assert_short((1, [(5, 9, 3, 2)], [], [(0, 0, 1, 9, 0)]), [(0, 0)])

    def test_a_limit_of_0(self):
        self.assert_least((2, [(6, 9, 0, 5)], [], [(0, 0, 2, 2, 2)]), 0)
        self.assert_short((2, [(5, 9, 0, 5)], [], [(0, 0, 2, 2, 2)]), [(0, 0), (1, 0)])

    def test_a_price_of_0(self):
        self.assert_least((4, [(0, 9, 9, 0)], [], [(0, 0, 4, 5, 4)]), 0)

    def test_a_full_room_that_needs_all_of_it(self):
        self.assert_least((12, [(9, 9, 4, 3)], [], [(0, 0, 12, 0, 9)]), 0)
        self.assert_least((12, [(9, 9, 4, 3)], [], [(0, 0, 12, 4, 9)]), 12 * 4 * 3)

    def test_more_goes_through_a_room_in_an_hour_than_it_holds(self):
        self.assert_least((1, [(1, 1, 9, 2)], [], [(0, 0, 1, 9, 1)]), 18)

    def test_air_has_to_be_vented_hours_ahead(self):
        plan = self.assert_least((4, [(0, 9, 2, 3)], [], [(0, 3, 4, 8, 0)]), 24)
        self.assertEqual(plan, [([2], [])] * 4)

    def test_what_is_vented_ahead_is_no_more_than_the_room_holds(self):
        self.assert_least((4, [(0, 6, 2, 3)], [], [(0, 3, 4, 8, 0)]), 24)
        self.assert_short((4, [(0, 5, 2, 3)], [], [(0, 3, 4, 8, 0)]), [(3, 0)])

    def test_a_need_ahead_keeps_air_for_a_use_behind(self):
        self.assert_least((2, [(0, 9, 9, 1)], [], [(0, 0, 1, 0, 7), (0, 1, 2, 5, 0)]), 7)

    def test_the_greatest_numbers(self):
        self.assert_least((12, [(0, 999, 999, 999)], [], [(0, 0, 12, 999, 0)]), 12 * 999 * 999)
        self.assert_short((12, [(999, 999, 999, 999)], [], [(0, 0, 12, 999, 999)] * 20))


class DoorsTest(LeastCase):
    def test_air_comes_by_a_door_whichever_way_it_is_told(self):
        rooms = [(0, 9, 0, 0), (8, 9, 0, 0)]
        for door, flow in (((0, 1, 6), -5), ((1, 0, 6), 5)):
            with self.subTest(door):
                plan = self.assert_least((1, rooms, [door], [(0, 0, 1, 5, 0)]), 0)
                self.assertEqual(plan, [([0, 0], [flow])])

    def test_a_door_s_limit_just_kept_and_one_unit_short(self):
        rooms = [(0, 9, 0, 0), (8, 9, 0, 0)]
        self.assert_least((1, rooms, [(0, 1, 5)], [(0, 0, 1, 5, 0)]), 0)
        self.assert_short((1, rooms, [(0, 1, 5)], [(0, 0, 1, 6, 0)]), [(0, 0)])
        self.assert_short((1, rooms, [(0, 1, 0)], [(0, 0, 1, 1, 0)]), [(0, 0)])

    def test_two_doors_between_the_same_rooms_one_each_way(self):
        rooms = [(0, 9, 0, 0), (8, 9, 0, 0)]
        doors = [(0, 1, 2), (1, 0, 3)]
        self.assert_least((1, rooms, doors, [(0, 0, 1, 5, 0)]), 0)
        self.assert_least((1, rooms[::-1], doors, [(1, 0, 1, 5, 0)]), 0)
        self.assert_short((1, rooms, doors, [(0, 0, 1, 6, 0)]), [(0, 0)])

    def test_the_cheaper_vent_is_taken_as_far_as_its_door_lets(self):
        rooms = [(0, 9, 9, 5), (0, 9, 9, 2)]
        self.assert_least((1, rooms, [(0, 1, 9)], [(0, 0, 1, 7, 0)]), 14)
        self.assert_least((1, rooms, [(0, 1, 3)], [(0, 0, 1, 7, 0)]), 3 * 2 + 4 * 5)
        self.assert_least((1, rooms, [], [(0, 0, 1, 7, 0)]), 35)

    def test_the_cheaper_air_may_have_to_come_hours_ahead(self):
        rooms = [(0, 20, 9, 5), (0, 20, 9, 2)]
        self.assert_least((3, rooms, [(1, 0, 2)], [(0, 2, 3, 10, 0)]), 3 * 2 * 2 + 4 * 5)

    def test_air_goes_through_a_room_between(self):
        rooms = [(0, 9, 0, 0), (0, 0, 0, 0), (9, 9, 0, 0)]
        self.assert_least((1, rooms, [(0, 1, 7), (2, 1, 7)], [(0, 0, 1, 7, 0)]), 0)
        self.assert_short((1, rooms, [(0, 1, 7), (2, 1, 6)], [(0, 0, 1, 7, 0)]))

    def test_a_full_room_gives_away_what_its_vent_lets_in(self):
        rooms = [(10, 10, 5, 3), (0, 10, 0, 0)]
        stays = [(0, 0, 1, 0, 10), (1, 0, 1, 4, 0)]
        plan = self.assert_least((1, rooms, [(0, 1, 9)], stays), 12)
        self.assertEqual(plan, [([4, 0], [4])])

    def test_a_room_gives_away_in_time_what_it_cannot_hold(self):
        rooms = [(0, 3, 9, 1), (0, 20, 0, 0)]
        stays = [(1, 1, 2, 15, 0)]
        plan = self.assert_least((2, rooms, [(0, 1, 9)], stays), 15)
        self.assertGreaterEqual(plan[0][1][0], 6)
        self.assert_short((2, [(0, 3, 7, 1), (0, 20, 0, 0)], [(0, 1, 9)], stays))

    def test_a_room_gives_its_own_air_away_and_vents_for_its_need(self):
        rooms = [(6, 6, 4, 2), (0, 9, 0, 0)]
        stays = [(0, 1, 2, 0, 6), (1, 0, 1, 5, 0)]
        self.assert_least((2, rooms, [(0, 1, 5)], stays), 10)

    def test_what_went_one_way_goes_back_an_hour_later(self):
        # Room 0 cannot hold the air till hour 1, room 1 can.
        rooms = [(0, 0, 4, 1), (0, 9, 0, 0)]
        self.assert_least((2, rooms, [(0, 1, 4)], [(0, 1, 2, 8, 0)]), 8)

    def test_air_first_sent_to_one_room_has_to_go_to_another(self):
        # Room 1 can be helped by both others, room 3 by room 2 alone.
        rooms = [(3, 9, 0, 0), (0, 9, 0, 0), (3, 9, 0, 0), (0, 9, 0, 0)]
        doors = [(2, 1, 3), (0, 1, 3), (2, 3, 3)]
        self.assert_least((1, rooms, doors, [(1, 0, 1, 3, 0), (3, 0, 1, 3, 0)]), 0)

    def test_a_dear_vent_spares_the_cheap_air_for_where_it_alone_gets(self):
        rooms = [(0, 9, 4, 1), (0, 9, 4, 6), (0, 9, 0, 0)]
        doors = [(0, 1, 9), (0, 2, 9)]
        stays = [(1, 0, 1, 3, 0), (2, 0, 1, 3, 0)]
        self.assert_least((1, rooms, doors, stays), 4 * 1 + 2 * 6)

    def test_a_vent_of_price_0_goes_ahead(self):
        rooms = [(0, 9, 9, 1), (0, 9, 4, 0)]
        self.assert_least((1, rooms, [(0, 1, 9)], [(0, 0, 1, 7, 0)]), 3)


class LargeTest(LeastCase):
    RING = [(at, (at + 1) % 6, 30 + at) for at in range(6)] + [(0, 3, 9), (3, 0, 9)]

    def test_the_largest_house_without_stays(self):
        rooms = [(0, 999, 999, 999)] * 6
        self.assert_least((12, rooms, self.RING, []), 0)

    def test_the_largest_house_with_stays(self):
        rooms = [(20, 90, 30 + 5 * at, 999 - 150 * at) for at in range(6)]
        stays = [(at % 6, at % 11, 12 - at // 10, 3 + at, 2 * at) for at in range(20)]
        self.assert_least((12, rooms, self.RING, stays))

    def test_the_largest_house_without_doors(self):
        rooms = [(20, 90, 60, 999 - 150 * at) for at in range(6)]
        stays = [(at % 6, at % 11, 12 - at // 10, 3 + at // 2, 2 * at) for at in range(20)]
        self.assert_least((12, rooms, [], stays))

    def test_one_hour_of_six_rooms_and_eight_doors(self):
        rooms = [(9, 20, 3 * at, 6 - at) for at in range(6)]
        stays = [(at % 6, 0, 1, 1 + at % 3, at % 5) for at in range(20)]
        self.assert_least((1, rooms, self.RING, stays))

    def test_all_that_lacks_is_told_of_the_largest_house(self):
        rooms = [(1, 9, 1, 1)] * 6
        self.assert_short((12, rooms, self.RING, [(at % 6, 0, 12, 1, 9) for at in range(20)]))

    def test_houses_by_a_fixed_rule(self):
        told = [0, 0]
        for seed in range(400):
            hours = (1, 2, 5, 12)[seed % 4]
            parts = made_parts(seed, hours, 6, 8, 20, (9, 60, 999)[seed % 3])
            with self.subTest(seed):
                try:
                    least(House(*parts))
                except NoPlan:
                    self.assert_short(parts)
                    told[1] += 1
                else:
                    self.assert_least(parts)
                    told[0] += 1
        # Enough of either sort, else the rule would show little.
        self.assertGreater(min(told), 100)


class EveryPlanTest(LeastCase):
    def test_of_every_plan_of_small_houses_the_least_is_told(self):
        told = [0, 0, 0]
        for seed in range(900):
            hours = 1 + seed % 3
            parts = made_parts(seed, hours, 3 if hours < 3 else 2, 2, 4, 4 if hours == 1 else 2)
            with self.subTest(seed, parts=parts):
                whole = least_cost(parts)
                if whole is None:
                    self.assert_short(parts)
                    told[0] += 1
                else:
                    self.assert_least(parts, whole)
                    told[1 if whole == 0 else 2] += 1
        # Enough of each sort, else the rule would show little.
        self.assertGreater(min(told), 50)


class NoPlanTest(LeastCase):
    def test_in_one_hour(self):
        self.assert_short((3, [(9, 9, 1, 1)], [], [(0, 1, 2, 10, 1)]), [(1, 0)])

    def test_over_several_hours(self):
        # No hour of these lacks by itself, for the room could hold enough.
        parts = (3, [(0, 9, 1, 1)], [], [(0, 2, 3, 4, 0)])
        self.assert_short(parts, [(0, 0), (1, 0), (2, 0)])
        self.assertEqual(lack(parts, [(0, 0), (1, 0), (2, 0)]), 1)
        self.assert_least((3, [(0, 9, 1, 1)], [], [(0, 2, 3, 3, 0)]), 3)

    def test_over_twelve_hours(self):
        parts = (12, [(1, 99, 1, 1)], [], [(0, 11, 12, 10, 4)])
        self.assert_short(parts, [(hour, 0) for hour in range(12)])

    def test_over_several_rooms_with_doors_between(self):
        rooms = [(2, 9, 1, 1), (2, 9, 1, 1), (9, 9, 9, 1)]
        stays = [(0, 0, 1, 4, 0), (1, 0, 1, 4, 0)]
        self.assert_short((1, rooms, [(0, 1, 9), (1, 2, 1)], stays), [(0, 0), (0, 1)])
        self.assert_least((1, rooms, [(0, 1, 9), (1, 2, 2)], stays), 2)

    def test_over_several_rooms_and_hours(self):
        rooms = [(0, 9, 1, 1), (3, 9, 0, 1)]
        stays = [(0, 1, 2, 3, 1), (1, 1, 2, 0, 2)]
        everywhere = [(0, 0), (0, 1), (1, 0), (1, 1)]
        self.assert_short((2, rooms, [(0, 1, 9)], stays), everywhere)

    def test_a_room_that_is_short_beside_one_that_is_not(self):
        rooms = [(0, 9, 1, 1), (9, 9, 9, 1)]
        self.assert_short((1, rooms, [], [(0, 0, 1, 5, 0), (1, 0, 1, 5, 0)]), [(0, 0)])

    def test_a_short_room_beside_one_that_a_dear_vent_helps(self):
        rooms = [(0, 9, 1, 1), (0, 9, 9, 9)]
        self.assert_short((1, rooms, [], [(0, 0, 1, 5, 0), (1, 0, 1, 5, 0)]), [(0, 0)])

    def test_what_is_told_may_be_changed(self):
        house = House(3, [(0, 9, 1, 1)], [], [(0, 2, 3, 4, 0)])
        first = refusal(self, NoPlan, least, house).short
        before = list(first)
        first.clear()
        self.assertEqual(refusal(self, NoPlan, least, house).short, before)


class NothingKeptTest(LeastCase):
    PARTS = (
        3,
        [(4, 20, 4, 5), (6, 9, 3, 2), (0, 9, 0, 0)],
        [(1, 0, 4), (1, 2, 2)],
        [(0, 0, 2, 3, 7), (1, 1, 3, 2, 4), (2, 1, 2, 1, 2)],
    )

    def test_houses_made_alike_are_told_the_same(self):
        self.assertEqual(least(House(*self.PARTS)), least(House(*copy.deepcopy(self.PARTS))))

    def test_the_house_is_not_changed(self):
        house = House(*self.PARTS)
        least(house)
        self.assertEqual((house.hours, house.rooms(), house.doors(), house.stays()), self.PARTS)
        for room in range(3):
            for hour in range(3):
                self.assertEqual(house.use(room, hour), use(self.PARTS, room, hour))
                self.assertEqual(house.least(room, hour), need(self.PARTS, room, hour))

    def test_what_is_told_may_be_changed(self):
        house = House(*self.PARTS)
        told = least(house)
        before = copy.deepcopy(told)
        plan, _, prices = told
        for vents, flows in plan:
            vents[0] += 50
            flows.clear()
        plan.pop()
        for row in prices:
            row[0] -= 50
        prices.append([])
        self.assertEqual(least(house), before)

    def test_each_hour_has_lists_of_its_own(self):
        plan, _, prices = least(House(12, [(0, 9, 9, 1)] * 2, [(0, 1, 1)], []))
        lists = [part for pair in plan for part in pair] + prices
        self.assertEqual(len({id(part) for part in lists}), 36)

    def test_the_lists_that_a_house_was_made_of_may_be_changed(self):
        parts = copy.deepcopy(self.PARTS)
        house = House(*parts)
        before = least(house)
        for part in parts[1:]:
            part.clear()
        self.assertEqual(least(house), before)

    def test_the_air_of_the_plan_is_what_the_document_says(self):
        plan, _, _ = least(House(*self.PARTS))
        for hour, left in enumerate(airs(self.PARTS, plan)):
            for room, air in enumerate(left):
                self.assertTrue(need(self.PARTS, room, hour) <= air <= self.PARTS[1][room][1])


if __name__ == "__main__":
    unittest.main()
