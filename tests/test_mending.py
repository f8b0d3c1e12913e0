"""Points 1, 5 and 9: a plan made anew from an hour on."""

import copy
import unittest

from reckoning import Numbers, bound, cost, from_hour, is_good, lack, least_cost, made_parts, refusal

from candleroom.errors import BadPlan, Broken, NoPlan
from candleroom.houses import House
from candleroom.least import least
from candleroom.mending import mended
from candleroom.papers import shows_least

HOURS = 4
ROOMS = [(4, 20, 4, 5), (6, 9, 3, 2)]
DOORS = [(1, 0, 4)]
STAYS = [(0, 0, 2, 3, 7), (1, 1, 4, 2, 4), (0, 1, 3, 1, 2)]
PARTS = (HOURS, ROOMS, DOORS, STAYS)
# Good, but dearer than need be.
PLAN = [([4, 3], [3]), ([4, 3], [0]), ([1, 0], [-1]), ([0, 2], [0])]


class MendedCase(unittest.TestCase):
    def assert_mended(self, parts, plan, hour, whole=None):
        """Hold what is told against the document's words; tell the new plan."""
        told = mended(House(*parts), plan, hour)
        self.assertIs(type(told), tuple)
        made, told_cost, prices = told
        self.assertIs(type(made), list)
        self.assertIs(type(prices), list)
        for pair in made:
            self.assertIs(type(pair), tuple)
            self.assertEqual([type(part) for part in pair], [list, list])
        for row in prices:
            self.assertIs(type(row), list)
            self.assertEqual(len(row), len(parts[1]))
        self.assertEqual(made[:hour], plan[:hour])
        self.assertEqual(len(made), parts[0])
        self.assertEqual(len(prices), parts[0] - hour)
        self.assertTrue(is_good(parts, made))
        self.assertEqual(cost(parts, made), told_cost)
        rest = from_hour(parts, plan, hour)
        self.assertEqual(bound(rest, prices), cost(rest, made[hour:]))
        if whole is not None:
            self.assertEqual(told_cost, whole)
        return made

    def assert_short(self, parts, plan, hour, short=None):
        told = refusal(self, NoPlan, mended, House(*parts), plan, hour).short
        self.assertGreater(len(told), 0)
        self.assertEqual(told, sorted(set(told)))
        for at, room in told:
            self.assertTrue(hour <= at < parts[0] and 0 <= room < len(parts[1]), (at, room))
        places = [(at - hour, room) for at, room in told]
        self.assertGreater(lack(from_hour(parts, plan, hour), places), 0)
        if short is not None:
            self.assertEqual(told, short)


class MendedTest(MendedCase):
    def test_the_plan_of_these_tests_is_good(self):
        self.assertTrue(is_good(PARTS, PLAN))

    def test_from_hour_0_it_is_the_least(self):
        self.assert_mended(PARTS, PLAN, 0)
        self.assertEqual(mended(House(*PARTS), PLAN, 0), least(House(*PARTS)))
        self.assertLess(least(House(*PARTS))[1], cost(PARTS, PLAN))

    def test_from_each_hour_on(self):
        costs = []
        for hour in range(HOURS):
            with self.subTest(hour):
                made = self.assert_mended(PARTS, PLAN, hour)
                costs.append(cost(PARTS, made))
        # The more is kept of a plan that is dearer than need be, the dearer.
        self.assertEqual(costs, sorted(costs))
        self.assertGreater(costs[-1], costs[0])
        self.assertLess(costs[-1], cost(PARTS, PLAN))

    def test_the_cost_is_that_of_all_hours(self):
        parts = (3, [(0, 9, 9, 2)], [], [(0, 0, 3, 3, 0)])
        plan = [([4], []), ([9], []), ([9], [])]
        made = self.assert_mended(parts, plan, 1, 18)
        self.assertEqual(made[0], ([4], []))
        self.assert_mended(parts, plan, 0, 18)
        plan = [([9], []), ([3], []), ([9], [])]
        self.assert_mended(parts, plan, 2, 24)

    def test_a_plan_of_the_least_stays_as_dear_from_each_hour_on(self):
        plan, whole, _ = least(House(*PARTS))
        for hour in range(HOURS):
            with self.subTest(hour):
                self.assert_mended(PARTS, plan, hour, whole)

    def test_a_house_with_stays_more(self):
        plan, whole, _ = least(House(*PARTS))
        parts = (HOURS, ROOMS, DOORS, STAYS + [(0, 2, 4, 2, 9), (1, 3, 4, 1, 6)])
        costs = [cost(parts, self.assert_mended(parts, plan, hour)) for hour in range(3)]
        self.assertGreater(costs[0], whole)
        self.assertEqual(costs, sorted(costs))

    def test_a_house_with_stays_fewer(self):
        plan, whole, _ = least(House(*PARTS))
        parts = (HOURS, ROOMS, DOORS, STAYS[:1])
        for hour in range(HOURS):
            with self.subTest(hour):
                made = self.assert_mended(parts, plan, hour)
                self.assertLessEqual(cost(parts, made), whole)
        self.assertLess(cost(parts, self.assert_mended(parts, plan, 0)), whole)

    def test_a_house_without_stays(self):
        made = self.assert_mended((HOURS, ROOMS, DOORS, []), PLAN, 1, 26)
        self.assertEqual([vents for vents, _ in made], [[4, 3]] + [[0, 0]] * 3)

    def test_a_stay_that_ends_just_at_the_hour_and_one_that_begins_there(self):
        parts = (3, [(0, 9, 9, 1)], [], [(0, 0, 1, 5, 2), (0, 1, 2, 1, 3)])
        plan = [([7], []), ([0], []), ([0], [])]
        made = self.assert_mended(parts, plan, 1, 9)
        self.assertEqual(made, [([7], []), ([2], []), ([0], [])])

    def test_a_stay_that_goes_on_over_the_hour(self):
        parts = (3, [(0, 9, 9, 1)], [], [(0, 0, 3, 2, 1)])
        plan = [([3], []), ([9], []), ([9], [])]
        self.assert_mended(parts, plan, 1, 7)

    def test_the_air_that_is_there_then_counts_and_not_the_first(self):
        parts = (2, [(9, 9, 9, 1), (0, 9, 9, 4)], [(0, 1, 9)], [(1, 1, 2, 8, 0)])
        kept = [([0, 0], [0]), ([9, 9], [0])]
        self.assert_mended(parts, kept, 1, 0)
        parts = (2, [(9, 9, 0, 1), (0, 9, 9, 4)], [(0, 1, 9)], [(0, 0, 1, 6, 0), (1, 1, 2, 8, 0)])
        self.assert_mended(parts, kept, 1, 20)

    def test_a_room_that_is_full_then(self):
        parts = (2, [(5, 9, 9, 1)], [], [(0, 1, 2, 3, 9)])
        self.assert_mended(parts, [([4], []), ([0], [])], 1, 7)

    def test_what_is_handed_in_behind_the_hour_does_not_matter(self):
        for hour in range(HOURS):
            plan = PLAN[:hour] + [([99, -99], [99])] * (HOURS - hour)
            with self.subTest(hour):
                self.assertEqual(mended(House(*PARTS), plan, hour), mended(House(*PARTS), PLAN, hour))

    def test_the_largest_house_from_each_hour_on(self):
        doors = [(at, (at + 1) % 6, 30 + at) for at in range(6)] + [(0, 3, 9), (3, 0, 9)]
        rooms = [(20, 90, 30 + 5 * at, 999 - 150 * at) for at in range(6)]
        stays = [(at % 6, at % 11, 12 - at // 10, 3 + at, 2 * at) for at in range(20)]
        parts = (12, rooms, doors, stays)
        plan, whole, _ = least(House(*parts))
        for hour in range(12):
            with self.subTest(hour):
                self.assert_mended(parts, plan, hour, whole)

    def test_houses_by_a_fixed_rule(self):
        told = [0, 0, 0]
        for seed in range(600):
            parts = made_parts(seed, 2 + seed % 2, 2, 2, 3, 2)
            house = House(*parts)
            numbers = Numbers(seed)
            hour = numbers.below(parts[0])
            plan = [
                (
                    [numbers.upto(room[2]) for room in parts[1]],
                    [numbers.upto(2 * door[2]) - door[2] for door in parts[2]],
                )
                for _ in range(parts[0])
            ]
            with self.subTest(seed, parts=parts, plan=plan, hour=hour):
                if not is_good((hour, *parts[1:]), plan[:hour]):
                    self.assertLess(refusal(self, Broken, mended, house, plan, hour).hour, hour)
                    told[0] += 1
                    continue
                later = least_cost(from_hour(parts, plan, hour))
                if later is None:
                    self.assert_short(parts, plan, hour)
                    told[1] += 1
                else:
                    kept = cost(parts, plan[:hour])
                    self.assert_mended(parts, plan, hour, kept + later)
                    told[2] += 1
        # Enough of each sort, else the rule would show little.
        self.assertGreater(min(told), 50)

    def test_from_hour_0_what_is_told_shows_it(self):
        house = House(*PARTS)
        self.assertIs(shows_least(house, *mended(house, PLAN, 0)), True)


class BrokenTest(MendedCase):
    def assert_broken(self, plan, hour, place):
        error = refusal(self, Broken, mended, House(*PARTS), plan, hour)
        self.assertEqual((error.hour, error.room), place)

    def changed(self, hour, vents, flows):
        return PLAN[:hour] + [(vents, flows)] + PLAN[hour + 1:]

    def test_a_fault_ahead_of_the_hour(self):
        plan = self.changed(1, [0, 0], [0])
        for hour in (2, 3):
            with self.subTest(hour):
                self.assert_broken(plan, hour, (1, 0))

    def test_a_limit_that_is_not_kept_ahead_of_the_hour(self):
        self.assert_broken(self.changed(0, [5, 0], [0]), 1, (0, -1))
        self.assert_broken(self.changed(2, [0, 0], [5]), 3, (2, -1))

    def test_a_room_that_holds_too_much_ahead_of_the_hour(self):
        parts = (2, [(9, 9, 9, 1)], [], [])
        error = refusal(self, Broken, mended, House(*parts), [([1], []), ([0], [])], 1)
        self.assertEqual((error.hour, error.room), (0, 0))

    def test_of_several_the_first_is_told(self):
        plan = [PLAN[0], ([0, 0], [0]), ([9, 9], [9]), PLAN[3]]
        self.assert_broken(plan, 3, (1, 0))
        self.assert_broken(plan, 2, (1, 0))

    def test_a_fault_in_the_hour_or_behind_it_is_none(self):
        for at in range(HOURS):
            for vents, flows in (([0, 0], [0]), ([9, 9], [9])):
                plan = self.changed(at, vents, flows)
                for hour in range(at + 1):
                    with self.subTest(at=at, hour=hour, vents=vents):
                        self.assert_mended(PARTS, plan, hour)

    def test_a_fault_goes_ahead_of_no_plan(self):
        parts = (2, [(0, 9, 1, 1)], [], [(0, 0, 2, 3, 0)])
        error = refusal(self, Broken, mended, House(*parts), [([0], []), ([0], [])], 1)
        self.assertEqual((error.hour, error.room), (0, 0))


class BadPlanTest(MendedCase):
    WRONG = {
        "no hour": [],
        "an hour too few": PLAN[:3],
        "an hour too many": PLAN + PLAN[:1],
        "a vent too few": [([4], [3]), *PLAN[1:]],
        "a vent too many at last": [*PLAN[:3], ([0, 2, 0], [0])],
        "no flow": [([4, 3], []), *PLAN[1:]],
        "a flow too many behind a fault": [([9, 9], [9]), *PLAN[1:3], ([0, 2], [0, 0])],
    }

    def test_a_plan_of_another_count(self):
        for name, plan in self.WRONG.items():
            for hour in (-1, 0, 1, 3, 4, 9):
                with self.subTest(name, hour=hour):
                    refusal(self, BadPlan, mended, House(*PARTS), plan, hour)

    def test_an_hour_that_is_not_there(self):
        for hour in (-2, -1, HOURS, HOURS + 1, 12, 999):
            with self.subTest(hour):
                refusal(self, BadPlan, mended, House(*PARTS), PLAN, hour)

    def test_an_hour_that_is_not_there_goes_ahead_of_a_fault(self):
        plan = [([9, 9], [9])] * HOURS
        for hour in (-1, HOURS, HOURS + 1):
            with self.subTest(hour):
                refusal(self, BadPlan, mended, House(*PARTS), plan, hour)

    def test_both_go_ahead_of_no_plan(self):
        house = House(1, [(0, 9, 0, 0)], [], [(0, 0, 1, 1, 0)])
        refusal(self, NoPlan, mended, house, [([0], [])], 0)
        refusal(self, BadPlan, mended, house, [([0], [])], 1)
        refusal(self, BadPlan, mended, house, [([0], [])], -1)
        refusal(self, BadPlan, mended, house, [([0, 0], [])], 0)


class NoPlanTest(MendedCase):
    def test_hours_are_told_by_their_numbers_in_the_house(self):
        parts = (5, [(0, 9, 2, 1)], [], [(0, 4, 5, 8, 0)])
        plan = [([0], [])] * 5
        self.assert_mended(parts, plan, 1, 8)
        self.assert_short(parts, plan, 2, [(2, 0), (3, 0), (4, 0)])
        self.assert_short(parts, plan, 4, [(4, 0)])

    def test_from_hour_0_it_is_that_of_the_house(self):
        parts = (2, [(0, 9, 1, 1)], [], [(0, 1, 2, 3, 0)])
        self.assert_short(parts, [([1], []), ([1], [])], 0, [(0, 0), (1, 0)])

    def test_over_several_rooms_with_doors_between(self):
        rooms = [(2, 9, 1, 1), (2, 9, 1, 1), (9, 9, 9, 1)]
        stays = [(0, 1, 2, 4, 0), (1, 1, 2, 4, 0)]
        plan = [([0, 0, 0], [0, 0])] * 3
        self.assert_short((3, rooms, [(0, 1, 9), (1, 2, 1)], stays), plan, 1, [(1, 0), (1, 1)])

    def test_stays_more_that_the_kept_hours_do_not_provide_for(self):
        plan, _, _ = least(House(*PARTS))
        parts = (HOURS, ROOMS, DOORS, STAYS + [(1, 3, 4, 9, 9), (0, 3, 4, 9, 9)])
        self.assert_short(parts, plan, 3)

    def test_what_is_told_may_be_changed(self):
        house = House(5, [(0, 9, 2, 1)], [], [(0, 4, 5, 8, 0)])
        plan = [([0], [])] * 5
        refusal(self, NoPlan, mended, house, plan, 2).short.clear()
        told = refusal(self, NoPlan, mended, house, plan, 2).short
        self.assertEqual(told, [(2, 0), (3, 0), (4, 0)])


class NothingKeptTest(MendedCase):
    def test_what_is_handed_in_is_not_changed(self):
        house = House(*PARTS)
        handed = copy.deepcopy(PLAN)
        for hour in range(-1, HOURS + 1):
            with self.subTest(hour):
                try:
                    mended(house, handed, hour)
                except BadPlan:
                    pass
                self.assertEqual(handed, PLAN)
        self.assertEqual((house.hours, house.rooms(), house.doors(), house.stays()), PARTS)

    def test_the_plan_handed_in_may_be_changed(self):
        handed = copy.deepcopy(PLAN)
        told = mended(House(*PARTS), handed, 2)
        before = copy.deepcopy(told)
        for vents, flows in handed:
            vents[0] += 50
            flows.clear()
        handed.clear()
        self.assertEqual(told, before)

    def test_what_is_told_may_be_changed(self):
        house = House(*PARTS)
        handed = copy.deepcopy(PLAN)
        told = mended(house, handed, 2)
        before = copy.deepcopy(told)
        plan, _, prices = told
        for vents, flows in plan:
            vents[0] += 50
            flows.clear()
        plan.pop()
        for row in prices:
            row.clear()
        self.assertEqual(handed, PLAN)
        self.assertEqual(mended(house, handed, 2), before)

    def test_houses_made_alike_are_told_the_same(self):
        for hour in range(HOURS):
            told = mended(House(*PARTS), PLAN, hour)
            self.assertEqual(mended(House(*copy.deepcopy(PARTS)), PLAN, hour), told)


if __name__ == "__main__":
    unittest.main()
