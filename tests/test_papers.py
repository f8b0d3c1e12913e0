"""Points 1, 6, 7 and 8: the bound by prices, what places lack, and what they show."""

import copy
import unittest

from reckoning import Numbers, bound as bound_by_words, cost as cost_by_words
from reckoning import is_good, lack as lack_by_words, made_parts, refusal

from candleroom.errors import BadPlan, NoPlan
from candleroom.houses import House
from candleroom.least import least
from candleroom.papers import bound, lack, shows_least, shows_short

PARTS = (
    3,
    [(4, 20, 4, 5), (6, 9, 3, 2)],
    [(1, 0, 4), (0, 1, 1)],
    [(0, 0, 2, 3, 7), (1, 1, 3, 2, 4), (0, 1, 2, 1, 2)],
)

SHORT_PARTS = (
    3,
    [(1, 20, 1, 5), (6, 9, 0, 2)],
    [(1, 0, 2)],
    [(0, 2, 3, 9, 7), (1, 0, 3, 0, 4)],
)


class BoundTest(unittest.TestCase):
    def assert_bound(self, parts, prices, told):
        self.assertEqual(bound(House(*parts), prices), told)
        self.assertEqual(bound_by_words(parts, prices), told)

    def test_prices_of_0(self):
        self.assert_bound(PARTS, [[0, 0]] * 3, 0)

    def test_what_is_used_and_the_first_air(self):
        # 4 of the 9 used are in the room, and the vent's price is not less.
        parts = (1, [(4, 20, 7, 5)], [], [(0, 0, 1, 9, 0)])
        self.assert_bound(parts, [[5]], 5 * 9 - 5 * 4)

    def test_a_price_above_the_vent_s(self):
        parts = (1, [(4, 20, 7, 5)], [], [(0, 0, 1, 9, 0)])
        self.assert_bound(parts, [[6]], 6 * 9 - 6 * 4 - 7)
        self.assert_bound(parts, [[4]], 4 * 9 - 4 * 4)

    def test_what_must_be_left_behind_the_last_hour(self):
        parts = (1, [(0, 20, 0, 9)], [], [(0, 0, 1, 0, 3)])
        self.assert_bound(parts, [[2]], 3 * 2)
        self.assert_bound(parts, [[-2]], -20 * 2)

    def test_a_price_that_falls_and_one_that_rises(self):
        parts = (2, [(0, 20, 0, 9)], [], [(0, 0, 2, 0, 3)])
        self.assert_bound(parts, [[5], [2]], 3 * 3 + 3 * 2)
        self.assert_bound(parts, [[2], [5]], -20 * 3 + 3 * 5)
        self.assert_bound(parts, [[2], [2]], 3 * 2)

    def test_prices_below_0(self):
        parts = (1, [(4, 20, 7, 5)], [], [(0, 0, 1, 9, 2)])
        self.assert_bound(parts, [[-3]], -3 * 9 + 3 * 4 - 20 * 3)

    def test_a_door_whichever_way_its_prices_differ(self):
        parts = (1, [(0, 0, 0, 9)] * 2, [(0, 1, 4)], [])
        self.assert_bound(parts, [[2, 5]], -12)
        self.assert_bound(parts, [[5, 2]], -12)
        self.assert_bound(parts, [[-2, 3]], -20)
        self.assert_bound(parts, [[3, 3]], 0)

    def test_each_of_two_doors_counts(self):
        parts = (1, [(0, 0, 0, 9)] * 2, [(0, 1, 4), (1, 0, 3)], [])
        self.assert_bound(parts, [[2, 5]], -21)

    def test_prices_by_a_fixed_rule(self):
        for seed in range(200):
            parts = made_parts(seed, (1, 3, 12)[seed % 3], 6, 8, 20, 60)
            numbers = Numbers(seed)
            prices = [[numbers.below(160) - 60 for _ in parts[1]] for _ in range(parts[0])]
            with self.subTest(seed):
                self.assert_bound(parts, prices, bound_by_words(parts, prices))

    def test_no_good_plan_costs_less(self):
        for seed in range(100):
            parts = made_parts(seed, 2, 3, 4, 4, 9)
            house = House(*parts)
            try:
                whole = least(house)[1]
            except NoPlan:
                continue
            numbers = Numbers(seed)
            for _ in range(10):
                prices = [[numbers.below(14) - 4 for _ in parts[1]] for _ in range(2)]
                with self.subTest(seed, prices=prices):
                    self.assertLessEqual(bound(house, prices), whole)

    def test_prices_of_another_count_are_no_error(self):
        house = House(*PARTS)
        prices = [[3, 1], [2, 4], [5, 5]]
        told = bound(house, prices)
        self.assertEqual(bound(house, [row + [7] for row in prices] + [[7, 7, 7]]), told)
        self.assertEqual(bound(house, prices[:2]), bound(house, prices[:2] + [[0, 0]]))
        self.assertEqual(bound(house, [[3], [2], [5]]), bound(house, [[3, 0], [2, 0], [5, 0]]))
        self.assertEqual(bound(house, []), 0)


class LackTest(unittest.TestCase):
    def assert_lack(self, parts, places, told):
        self.assertEqual(lack(House(*parts), places), told)
        self.assertEqual(lack_by_words(parts, places), told)

    def test_no_places(self):
        self.assert_lack(PARTS, [], 0)

    def test_one_place_in_the_only_hour(self):
        parts = (1, [(4, 20, 3, 5)], [], [(0, 0, 1, 9, 2)])
        self.assert_lack(parts, [(0, 0)], 9 - 3 + 2 - 4)

    def test_the_first_air_counts_in_hour_0_and_the_most_behind_it(self):
        parts = (3, [(4, 20, 3, 5)], [], [(0, 0, 3, 9, 2)])
        self.assert_lack(parts, [(0, 0)], 9 - 3 + 2 - 4)
        self.assert_lack(parts, [(1, 0)], 9 - 3 + 2 - 20)
        self.assert_lack(parts, [(2, 0)], 9 - 3 + 2 - 20)

    def test_hours_side_by_side(self):
        parts = (3, [(4, 20, 3, 5)], [], [(0, 0, 3, 9, 2)])
        self.assert_lack(parts, [(0, 0), (1, 0)], 2 * (9 - 3) + 2 - 4)
        self.assert_lack(parts, [(1, 0), (2, 0)], 2 * (9 - 3) + 2 - 20)
        self.assert_lack(parts, [(0, 0), (2, 0)], 2 * (9 - 3 + 2) - 4 - 20)
        self.assert_lack(parts, [(0, 0), (1, 0), (2, 0)], 3 * (9 - 3) + 2 - 4)

    def test_what_must_be_left_is_that_of_the_last_of_the_hours(self):
        parts = (2, [(0, 20, 0, 0)], [], [(0, 0, 1, 0, 7), (0, 1, 2, 0, 4)])
        self.assert_lack(parts, [(0, 0)], 7)
        self.assert_lack(parts, [(0, 0), (1, 0)], 4)

    def test_a_door_to_a_room_that_is_none_of_them(self):
        parts = (1, [(0, 9, 0, 0)] * 3, [(0, 1, 4), (2, 0, 3)], [])
        self.assert_lack(parts, [(0, 0)], -7)
        self.assert_lack(parts, [(0, 1)], -4)
        self.assert_lack(parts, [(0, 0), (0, 1)], -3)
        self.assert_lack(parts, [(0, 1), (0, 2)], -7)
        self.assert_lack(parts, [(0, 0), (0, 1), (0, 2)], 0)

    def test_a_door_of_another_hour(self):
        parts = (2, [(0, 9, 0, 0)] * 2, [(0, 1, 4)], [])
        self.assert_lack(parts, [(0, 0), (1, 1)], -4 - 4 - 9)

    def test_each_of_two_doors_counts(self):
        parts = (1, [(0, 9, 0, 0)] * 2, [(0, 1, 4), (1, 0, 3)], [])
        self.assert_lack(parts, [(0, 0)], -7)

    def test_the_order_of_places_does_not_matter(self):
        places = [(0, 0), (1, 0), (1, 1), (2, 1)]
        house = House(*PARTS)
        self.assertEqual(lack(house, places[::-1]), lack(house, places))

    def test_places_by_a_fixed_rule(self):
        for seed in range(200):
            parts = made_parts(seed, (1, 3, 12)[seed % 3], 6, 8, 20, 60)
            numbers = Numbers(seed)
            places = [
                (hour, room)
                for hour in range(parts[0])
                for room in range(len(parts[1]))
                if numbers.below(2)
            ]
            with self.subTest(seed):
                self.assert_lack(parts, places, lack_by_words(parts, places))

    def test_places_outside_the_house_are_no_error_and_lack_nothing(self):
        house = House(*PARTS)
        for place in ((3, 0), (-1, 0), (0, 2), (0, -1), (99, 99)):
            with self.subTest(place):
                self.assertEqual(lack(house, [place]), 0)
        inside = [(0, 0), (2, 1)]
        self.assertEqual(lack(house, inside + [(3, 1), (-1, 0)]), lack(house, inside))


class ShowsLeastTest(unittest.TestCase):
    def setUp(self):
        self.house = House(*PARTS)
        self.plan, self.whole, self.prices = least(self.house)

    def assert_shows(self, shown, plan, whole, prices):
        self.assertIs(shows_least(self.house, plan, whole, prices), shown)

    def test_what_least_tells(self):
        self.assertGreater(self.whole, 0)
        self.assert_shows(True, self.plan, self.whole, self.prices)

    def test_another_whole(self):
        for other in (self.whole - 1, self.whole + 1, 0, -self.whole):
            with self.subTest(other):
                self.assert_shows(False, self.plan, other, self.prices)

    def test_one_number_of_the_plan_changed(self):
        found = set()
        for hour in range(3):
            for side in range(2):
                for at in range(2):
                    for by in (-1, 1, 99):
                        plan = copy.deepcopy(self.plan)
                        plan[hour][side][at] += by
                        shown = is_good(PARTS, plan) and cost_by_words(PARTS, plan) == self.whole
                        found.add(shown)
                        with self.subTest(hour=hour, side=side, at=at, by=by):
                            self.assert_shows(shown, plan, self.whole, self.prices)
        self.assertIn(False, found)

    def test_a_plan_that_is_not_good_but_costs_as_much(self):
        parts = (2, [(0, 9, 9, 1)], [], [(0, 0, 1, 3, 0)])
        house = House(*parts)
        plan, whole, prices = least(house)
        self.assertEqual((plan[0], whole), (([3], []), 3))
        self.assertIs(shows_least(house, plan, whole, prices), True)
        self.assertIs(shows_least(house, [([0], []), ([3], [])], whole, prices), False)

    def test_a_good_plan_that_costs_more(self):
        plan = copy.deepcopy(self.plan)
        plan[2][0][0] += 1
        self.assertTrue(is_good(PARTS, plan))
        more = cost_by_words(PARTS, plan)
        self.assertEqual(more, self.whole + 5)
        self.assert_shows(False, plan, more, self.prices)
        self.assert_shows(False, plan, self.whole, self.prices)

    def test_one_number_of_the_prices_changed(self):
        found = set()
        for hour in range(3):
            for room in range(2):
                for by in (-1, 1, -99, 99):
                    prices = copy.deepcopy(self.prices)
                    prices[hour][room] += by
                    shown = bound_by_words(PARTS, prices) == self.whole
                    found.add(shown)
                    with self.subTest(hour=hour, room=room, by=by):
                        self.assert_shows(shown, self.plan, self.whole, prices)
        self.assertIn(False, found)

    def test_prices_of_another_count(self):
        # Each of these has the bound of the right ones where what is beyond counts for nothing.
        beyond = [
            self.prices + [[0, 0]],
            [row + [0] for row in self.prices],
            [self.prices[0] + [0], *self.prices[1:]],
            [*self.prices[:2], self.prices[2] + [0]],
        ]
        missing = [self.prices[:2], [row[:1] for row in self.prices], [], [[]] * 3]
        missing.append([*self.prices[:2], self.prices[2][:1]])
        for prices in beyond + missing:
            with self.subTest(prices):
                self.assert_shows(False, self.plan, self.whole, prices)

    def test_prices_too_few_where_the_missing_ones_are_0(self):
        house = House(2, [(9, 9, 9, 1)], [], [])
        plan, whole, _ = least(house)
        self.assertIs(shows_least(house, plan, whole, [[0], [0]]), True)
        for prices in ([[0]], [], [[], []], [[0], []]):
            with self.subTest(prices):
                self.assertIs(shows_least(house, plan, whole, prices), False)

    def test_a_plan_of_another_count_is_refused_ahead_of_all(self):
        for plan in (
            [], self.plan[:2], self.plan + self.plan[:1],
            [([0], [0, 0]), *self.plan[1:]], [([0, 0], [0]), *self.plan[1:]],
        ):
            for prices in (self.prices, self.prices[:2], [[0]]):
                for whole in (self.whole, self.whole + 1):
                    with self.subTest(plan=plan, prices=prices, whole=whole):
                        refusal(self, BadPlan, shows_least, self.house, plan, whole, prices)

    def test_what_least_tells_by_a_fixed_rule(self):
        for seed in range(100):
            house = House(*made_parts(seed, 4, 4, 6, 8, 60))
            with self.subTest(seed):
                try:
                    told = least(house)
                except NoPlan as error:
                    self.assertIs(shows_short(house, error.short), True)
                else:
                    self.assertIs(shows_least(house, *told), True)


class ShowsShortTest(unittest.TestCase):
    def setUp(self):
        self.house = House(*SHORT_PARTS)
        self.short = refusal(self, NoPlan, least, self.house).short

    def assert_shows(self, shown, places):
        self.assertIs(shows_short(self.house, places), shown)

    def test_what_least_refuses_with(self):
        self.assert_shows(True, self.short)

    def test_places_need_not_rise(self):
        self.assertGreater(len(self.short), 1)
        self.assert_shows(True, self.short[::-1])

    def test_no_places(self):
        self.assert_shows(False, [])

    def test_places_that_do_not_lack(self):
        self.assert_shows(False, [(0, 1)])
        self.assertLess(lack(self.house, [(0, 1)]), 0)

    def test_places_that_lack_just_0(self):
        house = House(1, [(4, 9, 3, 0)], [], [(0, 0, 1, 5, 2)])
        self.assertEqual(lack(house, [(0, 0)]), 0)
        self.assertIs(shows_short(house, [(0, 0)]), False)
        house = House(1, [(4, 9, 3, 0)], [], [(0, 0, 1, 5, 3)])
        self.assertIs(shows_short(house, [(0, 0)]), True)

    def test_places_twice(self):
        for place in self.short:
            with self.subTest(place):
                self.assert_shows(False, self.short + [place])

    def test_places_outside_the_house(self):
        for place in ((3, 0), (-1, 0), (0, 2), (0, -1), (99, 0)):
            with self.subTest(place):
                self.assert_shows(False, self.short + [place])
                self.assert_shows(False, [place] + self.short)

    def test_one_place_taken_away_or_put_to_them(self):
        places = [(hour, room) for hour in range(3) for room in range(2)]
        found = set()
        for place in places:
            if place in self.short:
                changed = [other for other in self.short if other != place]
            else:
                changed = sorted(self.short + [place])
            shown = lack_by_words(SHORT_PARTS, changed) > 0
            found.add(shown)
            with self.subTest(place):
                self.assert_shows(shown, changed)
        self.assertIn(False, found)

    def test_no_places_of_a_house_with_a_good_plan_show_it(self):
        house = House(*PARTS)
        places = [(hour, room) for hour in range(3) for room in range(2)]
        for chosen in range(2 ** 6):
            some = [place for at, place in enumerate(places) if chosen >> at & 1]
            with self.subTest(some):
                self.assertIs(shows_short(house, some), False)


class NothingKeptTest(unittest.TestCase):
    def test_what_is_handed_in_is_not_changed(self):
        house = House(*PARTS)
        told = least(house)
        before = copy.deepcopy(told)
        places = [(1, 0), (0, 0), (0, 0), (7, 7)]
        bound(house, told[2])
        shows_least(house, *told)
        lack(house, places)
        shows_short(house, places)
        self.assertEqual(told, before)
        self.assertEqual(places, [(1, 0), (0, 0), (0, 0), (7, 7)])
        self.assertEqual((house.hours, house.rooms(), house.doors(), house.stays()), PARTS)

    def test_what_was_handed_in_may_be_changed(self):
        house = House(*PARTS)
        plan, whole, prices = least(house)
        self.assertIs(shows_least(house, plan, whole, prices), True)
        prices[0][0] += 99
        self.assertIs(shows_least(house, plan, whole, prices), False)
        self.assertEqual(bound(house, prices), bound_by_words(PARTS, prices))
        places = [(0, 0)]
        lack(house, places)
        places.append((1, 0))
        self.assertEqual(lack(house, places), lack_by_words(PARTS, places))


if __name__ == "__main__":
    unittest.main()
