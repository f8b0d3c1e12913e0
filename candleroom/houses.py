"""Houses: rooms that share air through doors, and who stays in them."""

from candleroom.errors import BadHouse

MOST_HOURS = 12
MOST_ROOMS = 6
MOST_DOORS = 8
MOST_STAYS = 20
MOST_NUMBER = 999


class House:
    """A sealed house: its hours, rooms, doors and stays."""

    def __init__(self, hours, rooms, doors, stays):
        _check_counts(hours, rooms, doors, stays)
        _check_parts(hours, rooms, doors, stays)
        self.hours = hours
        # Copies, for the caller may change the lists later.
        self._rooms = list(rooms)
        self._doors = list(doors)
        self._stays = list(stays)

    def rooms(self):
        """Tell the rooms, a new list of tuples (air, most, limit, price)."""
        return list(self._rooms)

    def doors(self):
        """Tell the doors, a new list of tuples (one, other, limit)."""
        return list(self._doors)

    def stays(self):
        """Tell the stays, a new list of tuples (room, begin, end, use, need)."""
        return list(self._stays)

    def use(self, room, hour):
        """Tell what is used in the room in the hour."""
        return sum([use for use, _ in self._wants(room, hour)])

    def least(self, room, hour):
        """Tell what must be left in the room behind the hour."""
        return max([need for _, need in self._wants(room, hour)], default=0)

    def _wants(self, room, hour):
        """Tell a pair (use, need) for each stay in the room in the hour."""
        return [
            (use, need)
            for place, begin, end, use, need in self._stays
            if place == room and begin <= hour < end
        ]


def _check_counts(hours, rooms, doors, stays):
    """Refuse what there are too few or too many of."""
    if not 1 <= hours <= MOST_HOURS:
        raise BadHouse("hours", 0)
    if not 1 <= len(rooms) <= MOST_ROOMS:
        raise BadHouse("rooms", 0)
    if len(doors) > MOST_DOORS:
        raise BadHouse("doors", 0)
    if len(stays) > MOST_STAYS:
        raise BadHouse("stays", 0)


def _check_parts(hours, rooms, doors, stays):
    """Refuse the first room, door or stay that cannot be."""
    for number, room in enumerate(rooms):
        if not _room_can_be(room):
            raise BadHouse("room", number)
    for number, door in enumerate(doors):
        if not _door_can_be(door, rooms):
            raise BadHouse("door", number)
    # The stays come last: each is held against a room that can be.
    for number, stay in enumerate(stays):
        if not _stay_can_be(stay, hours, rooms):
            raise BadHouse("stay", number)


def _numbers_can_be(numbers):
    """Tell whether each number is one that a house may have."""
    return all(0 <= number <= MOST_NUMBER for number in numbers)


def _room_can_be(room):
    """Tell whether a house may have this room."""
    air, most, _, _ = room
    return _numbers_can_be(room) and air <= most


def _door_can_be(door, rooms):
    """Tell whether a house with these rooms may have this door."""
    one, other, _ = door
    return _numbers_can_be(door) and one != other and max(one, other) < len(rooms)


def _stay_can_be(stay, hours, rooms):
    """Tell whether a house with these hours and rooms may have this stay."""
    place, begin, end, _, need = stay
    if not _numbers_can_be(stay) or place >= len(rooms):
        return False
    _, most, _, _ = rooms[place]
    return begin < end <= hours and need <= most
