"""Drawings for the tests, made from a garden's size and its hedges, apart from the program's own reading."""


class Untouched(list):
    """A list that fails the test as soon as anything tries to change it, be it for a while only."""

    def refuse(self, *args, **kwargs):
        raise AssertionError("what was handed in was changed")

    __setitem__ = __delitem__ = __iadd__ = __imul__ = refuse
    append = extend = insert = pop = remove = clear = sort = reverse = refuse


def as_bytes(text):
    return list(text.encode("ascii"))


def as_drawing(*lines):
    return as_bytes("".join(line + "\n" for line in lines))


def side_count(wide, high):
    return high * (wide - 1) + wide * (high - 1)


def upright(x, y, wide):
    return y * (wide - 1) + x


def level(x, y, wide, high):
    return high * (wide - 1) + y * wide + x


def squares_of(number, wide, high):
    """The two squares beside an inner side, as the document numbers them."""
    if number < high * (wide - 1):
        y, x = divmod(number, wide - 1)
        return (x, y), (x + 1, y)
    y, x = divmod(number - high * (wide - 1), wide)
    return (x, y), (x, y + 1)


def lines_of(wide, high, hedges):
    """The lines of a drawing; wide and high may be more than a garden's, for the tests of faults."""
    lines = []
    for y in range(high + 1):
        between = [y in (0, high) or level(x, y - 1, wide, high) in hedges for x in range(wide)]
        lines.append("+" + "".join("-+" if stands else " +" for stands in between))
        if y < high:
            inner = ["|" if upright(x, y, wide) in hedges else " " for x in range(wide - 1)]
            lines.append("| " + "".join(sign + " " for sign in inner) + "|")
    return lines


def draw(wide, high, hedges):
    return as_drawing(*lines_of(wide, high, hedges))


def all_hedges(wide, high):
    return list(range(side_count(wide, high)))


def inner_places(wide, high):
    """The places of a drawing at which a hedge or a passage may stand."""
    bare = draw(wide, high, [])
    full = draw(wide, high, all_hedges(wide, high))
    return [place for place in range(len(bare)) if bare[place] != full[place]]


def places(wide, high):
    """The place of each inner side in a drawing, by the side's number."""
    uprights = [(2 * y + 1, 2 * x + 2) for y in range(high) for x in range(wide - 1)]
    levels = [(2 * y + 2, 2 * x + 1) for y in range(high - 1) for x in range(wide)]
    return [row * (2 * wide + 2) + column for row, column in uprights + levels]


def rooms(wide, high, hedges):
    """The rooms as sets of squares, found by walking from square to square."""
    beside = {(x, y): [] for y in range(high) for x in range(wide)}
    for number in range(side_count(wide, high)):
        if number not in hedges:
            one, other = squares_of(number, wide, high)
            beside[one].append(other)
            beside[other].append(one)
    found = []
    for start in beside:
        if any(start in room for room in found):
            continue
        room, ahead = {start}, [start]
        while ahead:
            for square in beside[ahead.pop()]:
                if square not in room:
                    room.add(square)
                    ahead.append(square)
        found.append(room)
    return found
