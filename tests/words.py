"""The document's words taken literally, over a garden's size and its hedges: slow, and apart from the program."""

import itertools

from drawings import level, rooms, side_count, squares_of, upright


def are_joined(number, wide, high, hedges):
    """Whether the two squares of an inner side are of one room, the rooms walked anew."""
    one, other = squares_of(number, wide, high)
    return any(one in room and other in room for room in rooms(wide, high, hedges))


def passages(wide, high, hedges):
    return [number for number in range(side_count(wide, high)) if number not in hedges]


def rings(wide, high, hedges):
    """Passages less squares plus rooms."""
    return len(passages(wide, high, hedges)) - wide * high + len(rooms(wide, high, hedges))


def opened_one_by_one(wide, high, hedges):
    left = set(hedges)
    opened = []
    for number in sorted(hedges):
        if not are_joined(number, wide, high, left):
            opened.append(number)
            left.remove(number)
    return opened


def planted_one_by_one(wide, high, hedges):
    standing = set(hedges)
    planted = []
    for number in passages(wide, high, hedges):
        if are_joined(number, wide, high, standing | {number}):
            planted.append(number)
            standing.add(number)
    return planted


def first_fewest_opened(wide, high, hedges):
    """Of all choices of rooms less one hedges that leave one room, the first."""
    fewest = len(rooms(wide, high, hedges)) - 1
    for choice in itertools.combinations(sorted(hedges), fewest):
        if len(rooms(wide, high, set(hedges) - set(choice))) == 1:
            return list(choice)
    raise AssertionError("no choice leaves one room")


def first_fewest_planted(wide, high, hedges):
    """Of all choices of as many passages as there are rings that leave the rooms as they are, the first."""
    before = rooms(wide, high, hedges)
    for choice in itertools.combinations(passages(wide, high, hedges), rings(wide, high, hedges)):
        if rooms(wide, high, set(hedges) | set(choice)) == before:
            return list(choice)
    raise AssertionError("no choice leaves the rooms as they are")


def mended_one_by_one(wide, high, hedges):
    """The hedges of the garden mended."""
    opened = opened_one_by_one(wide, high, hedges)
    return (set(hedges) - set(opened)) | set(planted_one_by_one(wide, high, hedges))


def is_perfect(wide, high, hedges):
    """Whether from the first square each other is come to, and each in one way only that comes nowhere twice."""
    beside = {}
    for number in passages(wide, high, hedges):
        one, other = squares_of(number, wide, high)
        beside.setdefault(one, []).append(other)
        beside.setdefault(other, []).append(one)
    before = {(0, 0): None}
    ahead = [(0, 0)]
    while ahead:
        square = ahead.pop()
        for further in beside.get(square, []):
            if further == before[square]:
                continue
            if further in before:
                return False
            before[further] = square
            ahead.append(further)
    return len(before) == wide * high


def first_fewest_mended(wide, high, hedges):
    """Of all changes that make the garden perfect the fewest, of these the first by what is opened, then planted."""
    numbers = range(side_count(wide, high))
    for count in range(len(numbers) + 1):
        found = []
        for choice in itertools.combinations(numbers, count):
            standing = set(hedges) ^ set(choice)
            if is_perfect(wide, high, standing):
                opened = [number for number in choice if number in hedges]
                planted = [number for number in choice if number not in hedges]
                found.append((opened, planted, standing))
        if found:
            return min(found, key=lambda one: one[:2])[2]
    raise AssertionError("no change makes it perfect")


def sides_of_square(x, y, wide, high):
    """The inner sides at the sides 0 to 3 of a square, None where the border stands."""
    return (
        level(x, y - 1, wide, high) if y > 0 else None,
        upright(x, y, wide) if x < wide - 1 else None,
        level(x, y, wide, high) if y < high - 1 else None,
        upright(x - 1, y, wide) if x > 0 else None)


def squares_with(count, wide, high, hedges):
    """The squares, rising, that have so many passages: lone ones have none, dead ends one."""
    found = []
    for y in range(high):
        for x in range(wide):
            inner = [number for number in sides_of_square(x, y, wide, high) if number is not None]
            if len([number for number in inner if number not in hedges]) == count:
                found.append((x, y))
    return found


def hedges_within(x, y, wide, high, hedges):
    """The hedges of a square within the garden, by its sides 0 to 3."""
    return [number for number in sides_of_square(x, y, wide, high) if number is not None and number in hedges]


def eased_one_by_one(wide, high, hedges):
    """The hedges of the garden eased; there is to be no lone square."""
    standing = set(hedges)
    for y in range(high):
        for x in range(wide):
            if (x, y) in squares_with(1, wide, high, standing):
                within = hedges_within(x, y, wide, high, standing)
                if within:
                    standing.remove(within[0])
    return standing


def every_garden(wide, high):
    """The hedges of each garden of a size."""
    numbers = range(side_count(wide, high))
    for chosen in itertools.product((False, True), repeat=len(numbers)):
        yield [number for number in numbers if chosen[number]]


def gardens_by_chance(chance, count):
    """Size and hedges of gardens of all sizes, from sparse to crowded, the same each time."""
    for turn in range(count):
        wide, high = chance.randint(1, 10), chance.randint(1, 10)
        part = chance.choice((0.05, 0.2, 0.4, 0.5, 0.6, 0.8, 0.95))
        yield wide, high, [n for n in range(side_count(wide, high)) if chance.random() < part]
