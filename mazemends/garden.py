"""Gardens of hedges, read from their drawings: the fewest changes that make them perfect, and dead ends eased."""

MOST_BYTES = 1024
MOST_SQUARES = 10

TAKEN = 0
TOO_LONG = -2
LONE_SQUARE = -5
AT_FAULT = -6
OTHER_SIZE = -9

LINE_END = 10
BLANK = 32
CORNER = 43
LEVEL_HEDGE = 45
UPRIGHT_HEDGE = 124


def line_bytes(wide):
    """Count the bytes of a drawing's line, its end among them."""
    return 2 * wide + 2


def wide_of(drawing):
    """Tell how many squares wide the drawing is, if its first line is one of a drawing."""
    signs = 0
    while signs < len(drawing) and drawing[signs] != LINE_END:
        signs = signs + 1
    return (signs - 1) // 2


def high_of(drawing, wide):
    """Tell how many squares high the drawing is, if all its lines are as long as the first."""
    return (len(drawing) // line_bytes(wide) - 1) // 2


def hedge_in(row):
    """Give the sign of a hedge in a line of a drawing: level ones stand in the lines with corners."""
    if row % 2 == 0:
        return LEVEL_HEDGE
    return UPRIGHT_HEDGE


def signs_allowed(place, wide, high):
    """Give the bytes that may stand at a place of a drawing that is so wide and so high."""
    row = place // line_bytes(wide)
    column = place % line_bytes(wide)
    if column == 2 * wide + 1:
        return (LINE_END,)
    if row % 2 == 0 and column % 2 == 0:
        return (CORNER,)
    if row % 2 == 1 and column % 2 == 1:
        return (BLANK,)
    if row in (0, 2 * high) or column in (0, 2 * wide):
        return (hedge_in(row),)
    return (hedge_in(row), BLANK)


def is_drawing(drawing):
    """Tell whether the bytes are the drawing of a garden, whole and with nothing behind it."""
    wide = wide_of(drawing)
    # Asked ahead of the height: without a first line there is no line to count by.
    if wide < 1 or wide > MOST_SQUARES:
        return False
    high = high_of(drawing, wide)
    if high < 1 or high > MOST_SQUARES:
        return False
    if len(drawing) != (2 * high + 1) * line_bytes(wide):
        return False
    for place in range(len(drawing)):
        if drawing[place] not in signs_allowed(place, wide, high):
            return False
    return True


def refusal_of(drawing):
    """Give the refusal that a drawing by itself calls for, or TAKEN."""
    if len(drawing) > MOST_BYTES:
        return TOO_LONG
    if not is_drawing(drawing):
        return AT_FAULT
    return TAKEN


def refusal_of_two(drawing, other):
    """Give the refusal that two drawings call for, or TAKEN; one of either counts ahead of their sizes."""
    refusals = (refusal_of(drawing), refusal_of(other))
    for refusal in (TOO_LONG, AT_FAULT):
        if refusal in refusals:
            return refusal
    wide = wide_of(drawing)
    if wide != wide_of(other) or high_of(drawing, wide) != high_of(other, wide):
        return OTHER_SIZE
    return TAKEN


def inner_sides(wide, high):
    """Give the two squares beside each inner side, in the order of the sides' numbers."""
    sides = []
    for y in range(high):
        for x in range(wide - 1):
            square = y * wide + x
            sides.append((square, square + 1))
    for square in range(wide * (high - 1)):
        sides.append((square, square + wide))
    return sides


def sides_around(square, wide, high):
    """Give the inner sides around a square, upper, right, lower, left, each with that square first."""
    sides = []
    if square >= wide:
        sides.append((square, square - wide))
    if square % wide < wide - 1:
        sides.append((square, square + 1))
    if square < wide * (high - 1):
        sides.append((square, square + wide))
    if square % wide > 0:
        sides.append((square, square - 1))
    return sides


def place_of_square(square, wide):
    """Tell where in a drawing the blank of a square stands."""
    row = 2 * (square // wide) + 1
    column = 2 * (square % wide) + 1
    return row * line_bytes(wide) + column


def place_of_side(side, wide):
    """Tell where in a drawing the sign of an inner side stands: midway between its squares."""
    return (place_of_square(side[0], wide) + place_of_square(side[1], wide)) // 2


def has_hedge(drawing, wide, side):
    """Tell whether a hedge stands at an inner side."""
    return drawing[place_of_side(side, wide)] != BLANK


def are_one_room(rooms, side):
    """Tell whether the two squares of an inner side are of one room."""
    return rooms[side[0]] == rooms[side[1]]


def rooms_joined(rooms, side):
    """Give the rooms as they are once the inner side is a passage."""
    kept = rooms[side[0]]
    gone = rooms[side[1]]
    return [kept if room == gone else room for room in rooms]


def rooms_of(drawing, wide, high):
    """Give for each square the room it is of; squares of one room have the same number."""
    rooms = list(range(wide * high))
    for side in inner_sides(wide, high):
        if not has_hedge(drawing, wide, side):
            rooms = rooms_joined(rooms, side)
    return rooms


def sides_to_open(drawing, wide, high):
    """Give the numbers of the inner sides whose hedges are to be opened, rising."""
    rooms = rooms_of(drawing, wide, high)
    sides = inner_sides(wide, high)
    numbers = []
    for number in range(len(sides)):
        side = sides[number]
        if has_hedge(drawing, wide, side) and not are_one_room(rooms, side):
            numbers.append(number)
            rooms = rooms_joined(rooms, side)
    return numbers


def sides_to_plant(drawing, wide, high):
    """Give the numbers of the inner sides whose passages are to be planted, rising."""
    # A passage that is not planted is on no ring, so of those ahead of a passage none helps to join
    # its squares: they are of one room without it just if the passages behind it make them so.
    rooms = list(range(wide * high))
    sides = inner_sides(wide, high)
    numbers = []
    for number in range(len(sides) - 1, -1, -1):
        side = sides[number]
        if has_hedge(drawing, wide, side):
            continue
        if are_one_room(rooms, side):
            numbers.append(number)
        else:
            rooms = rooms_joined(rooms, side)
    return list(reversed(numbers))


def drawing_mended(drawing, wide, high):
    """Give the drawing of the garden with the hedges opened and the passages planted, as a new list."""
    mended = list(drawing)
    sides = inner_sides(wide, high)
    # Both are told by the garden as it was handed in, not as it is half mended.
    for number in sides_to_open(drawing, wide, high):
        mended[place_of_side(sides[number], wide)] = BLANK
    for number in sides_to_plant(drawing, wide, high):
        place = place_of_side(sides[number], wide)
        mended[place] = hedge_in(place // line_bytes(wide))
    return mended


def has_lone_square(drawing, wide, high):
    """Tell whether there is a square without a passage."""
    for square in range(wide * high):
        sides = sides_around(square, wide, high)
        hedged = [side for side in sides if has_hedge(drawing, wide, side)]
        if len(hedged) == len(sides):
            return True
    return False


def drawing_eased(drawing, wide, high):
    """Give the drawing of the garden with a hedge opened at each dead end that has one, as a new list."""
    drawn = list(drawing)
    for square in range(wide * high):
        sides = sides_around(square, wide, high)
        # Asked of the new list: a hedge opened at a square before may have ended a dead end here.
        hedged = [side for side in sides if has_hedge(drawn, wide, side)]
        if len(hedged) > 0 and len(hedged) == len(sides) - 1:
            drawn[place_of_side(hedged[0], wide)] = BLANK
    return drawn


def to_open(garden):
    """Answer the inner sides whose hedges are to be opened, rising, or a refusal."""
    refusal = refusal_of(garden)
    if refusal != TAKEN:
        return [refusal]
    wide = wide_of(garden)
    return [TAKEN] + sides_to_open(garden, wide, high_of(garden, wide))


def plant(garden):
    """Answer the inner sides whose passages are to be planted, rising, or a refusal."""
    refusal = refusal_of(garden)
    if refusal != TAKEN:
        return [refusal]
    wide = wide_of(garden)
    return [TAKEN] + sides_to_plant(garden, wide, high_of(garden, wide))


def done(garden):
    """Answer the bytes of the drawing of the garden mended, or a refusal."""
    refusal = refusal_of(garden)
    if refusal != TAKEN:
        return [refusal]
    wide = wide_of(garden)
    return [TAKEN] + drawing_mended(garden, wide, high_of(garden, wide))


def differ(garden, other):
    """Answer the inner sides at which the two gardens differ, rising, or a refusal."""
    refusal = refusal_of_two(garden, other)
    if refusal != TAKEN:
        return [refusal]
    wide = wide_of(garden)
    sides = inner_sides(wide, high_of(garden, wide))
    answer = [TAKEN]
    for number in range(len(sides)):
        if has_hedge(garden, wide, sides[number]) != has_hedge(other, wide, sides[number]):
            answer.append(number)
    return answer


def eased(garden):
    """Answer the bytes of the drawing of the garden eased, or a refusal."""
    refusal = refusal_of(garden)
    if refusal != TAKEN:
        return [refusal]
    wide = wide_of(garden)
    high = high_of(garden, wide)
    if has_lone_square(garden, wide, high):
        return [LONE_SQUARE]
    return [TAKEN] + drawing_eased(garden, wide, high)
