"""Plans: what vents let in and what goes through doors, hour by hour."""

from candleroom.errors import BadPlan


def airs(house, plan):
    """Tell for each hour a list of each room's air behind it."""
    check_plan(house, plan)
    told = []
    held = [air for air, _, _, _ in house.rooms()]
    for hour, (vents, flows) in enumerate(plan):
        held = air_behind(house, hour, held, vents, flows)
        told.append(held)
    return told


def cost(house, plan):
    """Tell what all that the plan vents costs."""
    check_plan(house, plan)
    prices = [price for _, _, _, price in house.rooms()]
    return sum([
        vent * price
        for vents, _ in plan
        for vent, price in zip(vents, prices)
    ])


def fault(house, plan):
    """Tell the first pair (hour, room) in which the plan is not good, or None.

    The room is -1 where a vent or a door does not keep its limits.
    """
    behind = airs(house, plan)
    for hour, (vents, flows) in enumerate(plan):
        if not limits_kept(house, vents, flows):
            return (hour, -1)
        for room, (_, most, _, _) in enumerate(house.rooms()):
            if not house.least(room, hour) <= behind[hour][room] <= most:
                return (hour, room)
    return None


def check_plan(house, plan):
    """Refuse a plan that does not fit the house's counts."""
    if len(plan) != house.hours:
        raise BadPlan(f"a plan of {len(plan)} hours for a house of {house.hours}")
    rooms = len(house.rooms())
    doors = len(house.doors())
    for hour, (vents, flows) in enumerate(plan):
        if len(vents) != rooms:
            raise BadPlan(f"{len(vents)} vents for {rooms} rooms in hour {hour}")
        if len(flows) != doors:
            raise BadPlan(f"{len(flows)} flows for {doors} doors in hour {hour}")


def air_behind(house, hour, held, vents, flows):
    """Tell a new list of each room's air behind the hour, from that ahead of it."""
    left = [
        air + vent - house.use(room, hour)
        for room, (air, vent) in enumerate(zip(held, vents))
    ]
    for (one, other, _), flow in zip(house.doors(), flows):
        left[one] -= flow
        left[other] += flow
    return left


def limits_kept(house, vents, flows):
    """Tell whether each vent and each door of an hour keeps its limits."""
    for (_, _, limit, _), vent in zip(house.rooms(), vents):
        if not 0 <= vent <= limit:
            return False
    for (_, _, limit), flow in zip(house.doors(), flows):
        if not -limit <= flow <= limit:
            return False
    return True
