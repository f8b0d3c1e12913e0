"""Texts: a house written as rows, and read again."""

from candleroom.errors import BadText
from candleroom.houses import House

# The sorts of rows, in the order in which they stand.
SORTS = ("hours", "room", "door", "stay")
# How many numbers a row of each sort has.
COUNTS = {"hours": 1, "room": 4, "door": 3, "stay": 5}
MOST_FIGURES = 4


def written(house):
    """Tell the text of the house."""
    rows = [_row("hours", (house.hours,))]
    rows.extend([_row("room", room) for room in house.rooms()])
    rows.extend([_row("door", door) for door in house.doors()])
    rows.extend([_row("stay", stay) for stay in house.stays()])
    return "\n".join(rows)


def read(text):
    """Tell the house of which this is the text."""
    parts = [[] for _ in SORTS]
    latest = 0
    for number, row in enumerate(text.split("\n")):
        words = row.split(" ")
        if not _is_row(words):
            raise BadText(number)
        sort = SORTS.index(words[0])
        # The hours stand in the first row, and there alone.
        if sort < latest or (sort == 0) != (number == 0):
            raise BadText(number)
        latest = sort
        parts[sort].append(tuple([int(word) for word in words[1:]]))
    hours, rooms, doors, stays = parts
    return House(hours[0][0], rooms, doors, stays)


def _row(word, numbers):
    """Tell the row of a word and its numbers."""
    return " ".join([word] + [str(number) for number in numbers])


def _is_row(words):
    """Tell whether the words are those of a row: its sort and its numbers."""
    if words[0] not in COUNTS or len(words) != COUNTS[words[0]] + 1:
        return False
    return all(_is_number(word) for word in words[1:])


def _is_number(word):
    """Tell whether the word is a number of one to four figures, without a needless 0."""
    if not 1 <= len(word) <= MOST_FIGURES:
        return False
    # Of isdigit alone there are figures that are not 0 to 9.
    if not word.isascii() or not word.isdigit():
        return False
    return word == "0" or word[0] != "0"
