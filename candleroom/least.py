"""The least: a good plan that costs the least, and prices that show it."""

from candleroom.errors import NoPlan
from candleroom.plans import cost


class Net:
    """Places, the outside, and the ways on which air can still come.

    A place is a room in an hour; the places are numbered by hours, and by rooms
    in each. Each way stands ahead of its way back, which takes back what came.
    """

    def __init__(self, house):
        rooms = house.rooms()
        self.outside = house.hours * len(rooms)
        self.lacks = [0] * self.outside
        self.tails = []
        self.heads = []
        self.spares = []
        self.prices = []
        self.into = [[] for _ in range(self.outside + 1)]
        # For each hour a pair, as in a plan: the vents' ways, the doors' ways.
        self.plan_ways = []
        for hour in range(house.hours):
            self.plan_ways.append(self.link_hour(house, hour))
        for room in range(len(rooms)):
            self.keep_air(house, room)

    def link_hour(self, house, hour):
        """Add the ways of the vents and of the doors in the hour, and tell both."""
        rooms = house.rooms()
        first = hour * len(rooms)
        vents = []
        for room, (_, _, limit, price) in enumerate(rooms):
            vents.append(self.link(self.outside, first + room, limit, 0, price))
        flows = []
        for one, other, limit in house.doors():
            flows.append(self.link(first + one, first + other, limit, limit, 0))
        return (vents, flows)

    def link(self, tail, head, spare, back, price):
        """Add a way and its way back, and tell the way's number."""
        way = len(self.tails)
        self.tails.extend([tail, head])
        self.heads.extend([head, tail])
        self.spares.extend([spare, back])
        self.prices.extend([price, -price])
        self.into[head].append(way)
        self.into[tail].append(way + 1)
        return way

    def keep_air(self, house, room):
        """Let the room live on its own air, and lack what that is short of.

        So it never holds too much, for it holds no more than its most at first.
        What is left behind the last hour goes outside.
        """
        rooms = house.rooms()
        air, most, _, _ = rooms[room]
        for hour in range(house.hours):
            place = hour * len(rooms) + room
            must = house.least(room, hour)
            own = air - house.use(room, hour)
            air = max(own, must)
            self.lacks[place] = air - own
            behind = min(place + len(rooms), self.outside)
            self.link(place, behind, most - air, air - must, 0)


def least(house):
    """Tell a good plan that costs the least, what it costs, and prices.

    Air that costs less goes ahead: what is dearer comes only where none that
    costs less can get to any more, so no vent ever needs to be taken back.
    """
    net = Net(house)
    rooms = house.rooms()
    levels = [0] + [price for _, _, _, price in rooms]
    short = {}
    for level in sorted(set(levels)):
        short = _fill(net, level)
    if short:
        raise NoPlan([divmod(place, len(rooms)) for place in sorted(short)])
    plan = _plan(house, net)
    told = _prices(net, max(levels))
    rows = [told[first:first + len(rooms)] for first in range(0, net.outside, len(rooms))]
    return (plan, cost(house, plan), rows)


def _fill(net, level):
    """Let come what costs no more than the level, until no more can get there.

    Tell the places that lack air then, and those from which it could get there.
    """
    onward = _ways_onward(net, level)
    while net.outside in onward:
        _push(net, onward)
        onward = _ways_onward(net, level)
    return onward


def _ways_onward(net, level):
    """Tell the places from which air can get to one that lacks it.

    Each has the way that leads on from it, None where it lacks air itself. The
    outside is among them if air can come from there for no more than the level.
    """
    onward = {place: None for place, lacked in enumerate(net.lacks) if lacked > 0}
    wave = list(onward)
    while wave and net.outside not in onward:
        ahead = []
        for place in wave:
            for way in net.into[place]:
                tail = net.tails[way]
                if net.spares[way] > 0 and net.prices[way] <= level and tail not in onward:
                    onward[tail] = way
                    ahead.append(tail)
        wave = ahead
    return onward


def _push(net, onward):
    """Let air come from outside to a place that lacks it, as much as can."""
    course = []
    place = net.outside
    while onward[place] is not None:
        course.append(onward[place])
        place = net.heads[onward[place]]
    amount = min([net.lacks[place]] + [net.spares[way] for way in course])
    net.lacks[place] -= amount
    for way in course:
        net.spares[way] -= amount
        # The way back of an even way is the odd one behind it, and so the other way.
        net.spares[way ^ 1] += amount


def _plan(house, net):
    """Tell the plan by which the air came."""
    vent_limits = [limit for _, _, limit, _ in house.rooms()]
    door_limits = [limit for _, _, limit in house.doors()]
    return [
        (_moved(net, vents, vent_limits), _moved(net, flows, door_limits))
        for vents, flows in net.plan_ways
    ]


def _moved(net, ways, limits):
    """Tell what came by each of the ways, which could have taken their limits."""
    return [limit - net.spares[way] for way, limit in zip(ways, limits)]


def _prices(net, highest):
    """Tell for each place what one more unit there would cost.

    Where none could get there at all it is the highest price: so it is no less
    than that of any vent there, and of any place that air can go to from there.
    """
    told = [highest] * net.outside + [0]
    changed = True
    while changed:
        changed = False
        for way, spare in enumerate(net.spares):
            price = told[net.tails[way]] + net.prices[way]
            if spare > 0 and price < told[net.heads[way]]:
                told[net.heads[way]] = price
                changed = True
    return told
