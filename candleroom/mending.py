"""Mending: a plan that is kept ahead of an hour and made anew from there on."""

from candleroom.errors import BadPlan, Broken, NoPlan
from candleroom.houses import House
from candleroom.least import least
from candleroom.plans import airs, check_plan, cost, fault


def mended(house, plan, hour):
    """Tell the least plan of those that are the same ahead of the hour.

    Tell behind it what it costs in all, and prices for the hours from there on.
    """
    check_plan(house, plan)
    if not 0 <= hour < house.hours:
        raise BadPlan(f"no hour {hour} in a house of {house.hours}")
    _check_kept(house, plan, hour)
    try:
        rest, _, prices = least(_house_from(house, plan, hour))
    except NoPlan as refusal:
        raise NoPlan([(hour + later, room) for later, room in refusal.short]) from None
    whole = [(list(vents), list(flows)) for vents, flows in plan[:hour]] + rest
    return (whole, cost(house, whole), prices)


def _check_kept(house, plan, hour):
    """Refuse a plan that is at fault ahead of the hour."""
    first = fault(house, plan)
    if first is not None and first[0] < hour:
        raise Broken(first[0], first[1])


def _house_from(house, plan, hour):
    """Tell the house that is there from the hour on, that hour being its hour 0."""
    rooms = house.rooms()
    held = [air for air, _, _, _ in rooms]
    if hour > 0:
        held = airs(house, plan)[hour - 1]
    stays = [
        (room, max(begin - hour, 0), end - hour, use, need)
        for room, begin, end, use, need in house.stays()
        if end > hour
    ]
    return House(
        house.hours - hour,
        [(air, most, limit, price) for air, (_, most, limit, price) in zip(held, rooms)],
        house.doors(),
        stays,
    )
