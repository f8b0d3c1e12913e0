"""What the document says, reckoned by its words and not by the program.

A house is handed about as its parts, a tuple (hours, rooms, doors, stays).
Of the program nothing is used but its refusals.
"""

from itertools import product

from candleroom.errors import AirError, BadHouse, BadPlan, BadText, Broken, NoPlan


def refusal(test, kind, function, *told):
    """Tell the refusal of this kind, held against each other kind."""
    with test.assertRaises(kind) as caught:
        function(*told)
    test.assertIsInstance(caught.exception, AirError)
    test.assertIsInstance(caught.exception, ValueError)
    for other in (BadHouse, BadPlan, Broken, NoPlan, BadText):
        test.assertEqual(isinstance(caught.exception, other), other is kind)
    return caught.exception


def use(parts, room, hour):
    """Point 4: the sum of the uses of the room's stays in the hour."""
    return sum(stay[3] for stay in parts[3] if stay[0] == room and stay[1] <= hour < stay[2])


def need(parts, room, hour):
    """Point 4: the greatest of the needs of the room's stays in the hour, else 0."""
    needs = [stay[4] for stay in parts[3] if stay[0] == room and stay[1] <= hour < stay[2]]
    return max(needs) if needs else 0


def air_behind(parts, held, hour, vents, flows):
    """Point 5: the air of each room behind the hour."""
    rooms = range(len(parts[1]))
    came = [0 for _ in rooms]
    for (one, other, _), flow in zip(parts[2], flows):
        came[one] -= flow
        came[other] += flow
    return [held[room] + vents[room] + came[room] - use(parts, room, hour) for room in rooms]


def airs(parts, plan):
    """Point 5: the air of each room behind each hour."""
    held = [room[0] for room in parts[1]]
    told = []
    for hour, (vents, flows) in enumerate(plan):
        held = air_behind(parts, held, hour, vents, flows)
        told.append(held)
    return told


def cost(parts, plan):
    """Point 6: each vented unit costs its room's price."""
    return sum(
        vents[room] * parts[1][room][3] for vents, _ in plan for room in range(len(parts[1]))
    )


def can_be_left(parts, hour, left):
    """Point 6: no less than must be left, and no more than the room holds."""
    return all(
        need(parts, room, hour) <= left[room] <= parts[1][room][1] for room in range(len(left))
    )


def is_good(parts, plan):
    """Point 6: limits are kept, and each room's air behind each hour."""
    for hour, ((vents, flows), left) in enumerate(zip(plan, airs(parts, plan))):
        for vent, room in zip(vents, parts[1]):
            if vent < 0 or vent > room[2]:
                return False
        for flow, door in zip(flows, parts[2]):
            if abs(flow) > door[2]:
                return False
        if not can_be_left(parts, hour, left):
            return False
    return True


def bound(parts, prices):
    """Point 7: the bound by the prices."""
    hours, rooms, doors, _ = parts
    total = 0
    for hour in range(hours):
        now = prices[hour]
        behind = prices[hour + 1] if hour + 1 < hours else [0] * len(rooms)
        for room, (air, most, limit, price) in enumerate(rooms):
            total += now[room] * use(parts, room, hour)
            if now[room] > price:
                total -= limit * (now[room] - price)
            difference = now[room] - behind[room]
            if difference > 0:
                total += need(parts, room, hour) * difference
            else:
                total += most * difference
            if hour == 0:
                total -= air * now[room]
        for one, other, limit in doors:
            total -= limit * max(now[one] - now[other], now[other] - now[one])
    return total


def lack(parts, places):
    """Point 8: what the places lack, over all of them."""
    hours, rooms, doors, _ = parts
    total = 0
    for hour, room in places:
        air, most, limit, _ = rooms[room]
        total += use(parts, room, hour) - limit
        if hour == hours - 1 or (hour + 1, room) not in places:
            total += need(parts, room, hour)
        if hour == 0:
            total -= air
        elif (hour - 1, room) not in places:
            total -= most
        for one, other, door_limit in doors:
            for here, there in ((one, other), (other, one)):
                if here == room and (hour, there) not in places:
                    total -= door_limit
    return total


def from_hour(parts, plan, hour):
    """Point 9: the parts of the house from the hour on, with the air that is there then."""
    hours, rooms, doors, stays = parts
    held = [room[0] for room in rooms]
    if hour > 0:
        held = airs(parts, plan)[hour - 1]
    later = [
        (room, max(0, begin - hour), end - hour, used, needed)
        for room, begin, end, used, needed in stays
        if end - hour > 0
    ]
    return (hours - hour, [(air, *room[1:]) for air, room in zip(held, rooms)], doors, later)


def least_cost(parts):
    """Go through every plan, hour by hour: the least that a good one costs, or None."""
    hours, rooms, doors, _ = parts
    vents = list(product(*[range(room[2] + 1) for room in rooms]))
    flows = list(product(*[range(-door[2], door[2] + 1) for door in doors]))
    prices = [room[3] for room in rooms]

    def rest(hour, held):
        if hour == hours:
            return 0
        found = None
        for vented, flown in product(vents, flows):
            left = air_behind(parts, held, hour, vented, flown)
            if not can_be_left(parts, hour, left):
                continue
            later = rest(hour + 1, left)
            if later is None:
                continue
            whole = later + sum(vent * price for vent, price in zip(vented, prices))
            if found is None or whole < found:
                found = whole
        return found

    return rest(0, [room[0] for room in rooms])


class Numbers:
    """Numbers by a fixed rule, the same on every run."""

    def __init__(self, seed):
        self.state = seed * 2654435761 + 12345

    def below(self, end):
        self.state = (self.state * 6364136223846793005 + 1442695040888963407) % 2 ** 64
        return (self.state >> 33) % end

    def upto(self, last):
        return self.below(last + 1)


def made_parts(seed, hours, most_rooms, most_doors, most_stays, greatest):
    """Parts of a house by a fixed rule, of no more and no greater than told."""
    numbers = Numbers(seed)
    rooms = []
    for _ in range(1 + numbers.below(most_rooms)):
        most = numbers.upto(greatest)
        vent = numbers.upto(numbers.upto(greatest))
        rooms.append((numbers.upto(most), most, vent, numbers.upto(numbers.upto(greatest))))
    doors = []
    if len(rooms) > 1:
        for _ in range(numbers.upto(most_doors)):
            one = numbers.below(len(rooms))
            other = (one + 1 + numbers.below(len(rooms) - 1)) % len(rooms)
            doors.append((one, other, numbers.upto(numbers.upto(greatest))))
    stays = []
    for _ in range(numbers.upto(most_stays)):
        room = numbers.below(len(rooms))
        begin = numbers.below(hours)
        end = begin + 1 + numbers.below(hours - begin)
        used = numbers.upto(numbers.upto(numbers.upto(greatest)))
        stays.append((room, begin, end, used, numbers.upto(numbers.upto(rooms[room][1]))))
    return (hours, rooms, doors, stays)
