"""Papers: what shows that a plan is the least, or that there is none."""

from candleroom.plans import cost, fault


def bound(house, prices):
    """Tell the bound by the prices: no good plan costs less."""
    total = 0
    for hour in range(house.hours):
        for room in range(len(house.rooms())):
            total += _room_bound(house, prices, room, hour)
        for one, other, limit in house.doors():
            total -= limit * abs(_price(house, prices, one, hour) - _price(house, prices, other, hour))
    return total


def lack(house, places):
    """Tell what the places (hour, room) lack, those outside the house nothing."""
    return sum([
        _place_lack(house, places, hour, room)
        for hour, room in places
        if _is_place(house, hour, room)
    ])


def shows_least(house, plan, whole, prices):
    """Tell whether the plan is good, costs whole, and so is the bound by the prices."""
    good = fault(house, plan) is None
    return (
        good
        and _prices_fit(house, prices)
        and cost(house, plan) == whole
        and bound(house, prices) == whole
    )


def shows_short(house, places):
    """Tell whether the places are of the house, none twice, and lack more than 0."""
    for hour, room in places:
        if not _is_place(house, hour, room):
            return False
    return len(set(places)) == len(places) and lack(house, places) > 0


def _room_bound(house, prices, room, hour):
    """Tell the part of a room in an hour in the bound."""
    air, most, limit, vent_price = house.rooms()[room]
    price = _price(house, prices, room, hour)
    part = price * house.use(room, hour) - limit * max(price - vent_price, 0)
    fall = price - _price(house, prices, room, hour + 1)
    part += fall * (house.least(room, hour) if fall > 0 else most)
    if hour == 0:
        part -= air * price
    return part


def _price(house, prices, room, hour):
    """Tell the price of a room in an hour, 0 where there is none."""
    if hour >= min(house.hours, len(prices)) or room >= len(prices[hour]):
        return 0
    return prices[hour][room]


def _prices_fit(house, prices):
    """Tell whether the prices have the house's counts of hours and of rooms."""
    rooms = len(house.rooms())
    return len(prices) == house.hours and all(len(row) == rooms for row in prices)


def _is_place(house, hour, room):
    """Tell whether the house has that hour and that room."""
    return 0 <= hour < house.hours and 0 <= room < len(house.rooms())


def _place_lack(house, places, hour, room):
    """Tell the part of one of the places in what they lack."""
    air, most, limit, _ = house.rooms()[room]
    part = house.use(room, hour) - limit
    if hour + 1 == house.hours or (hour + 1, room) not in places:
        part += house.least(room, hour)
    if hour == 0:
        part -= air
    elif (hour - 1, room) not in places:
        part -= most
    for one, other, door_limit in house.doors():
        if room == one and (hour, other) not in places:
            part -= door_limit
        if room == other and (hour, one) not in places:
            part -= door_limit
    return part
