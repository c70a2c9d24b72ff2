"""What is asked of curves that are told already: corners and slopes in lowest terms."""

from quickbythen.exact import ONE, ZERO, is_less, lesser, lowest, minus, over, plus, times


def rise_between(one, other):
    """What a curve grows by a beat from one corner to a later one: a top and a bottom above 0, in no lowest terms."""
    begin_top, begin_bottom = one[0]
    end_top, end_bottom = other[0]
    first_top, first_bottom = one[1]
    last_top, last_bottom = other[1]
    return ((last_top * first_bottom - first_top * last_bottom) * begin_bottom * end_bottom,
            (end_top * begin_bottom - begin_top * end_bottom) * first_bottom * last_bottom)


def slope_between(one, other):
    """What a curve grows by a beat from one corner to a later one."""
    top, bottom = rise_between(one, other)
    return lowest(top, bottom)


def tidied(corners, slope):
    """The told curve with these corners, less those at which nothing bends."""
    kept = [corners[0]]
    if len(corners) == 1:
        return (kept, slope)
    ahead = rise_between(corners[0], corners[1])
    for index in range(1, len(corners)):
        following = slope
        if index + 1 < len(corners):
            following = rise_between(corners[index], corners[index + 1])
        if ahead[0] * following[1] != following[0] * ahead[1]:
            kept.append(corners[index])
        ahead = following
    return (kept, slope)


def straight(worth, slope):
    """The curve that begins with a worth and never bends."""
    return ([(ZERO, worth)], slope)


def piece_slope(curve, index):
    """What a curve grows by a beat behind the corner with this index."""
    corners, slope = curve
    if index + 1 < len(corners):
        return slope_between(corners[index], corners[index + 1])
    return slope


def pieces_of(curve):
    """The list of triples of each corner's moment and worth, and the slope behind it."""
    corners = curve[0]
    return [(moment, worth, piece_slope(curve, index)) for index, (moment, worth) in enumerate(corners)]


def last_corner(curve, moment):
    """The index of the last corner that is not behind a moment."""
    corners = curve[0]
    low = 0
    high = len(corners)
    while high - low > 1:
        middle = (low + high) // 2
        if is_less(moment, corners[middle][0]):
            high = middle
        else:
            low = middle
    return low


def worth_on(corner, rise, moment):
    """The worth of a curve that goes on from a corner, by a top and a bottom a beat, at a moment not ahead of it."""
    begin, worth = corner
    if begin == moment:
        return worth
    beats = moment[0] * begin[1] - begin[0] * moment[1]
    under = rise[1] * moment[1] * begin[1]
    return lowest(worth[0] * under + rise[0] * beats * worth[1], worth[1] * under)


def worth_of(curve, moment):
    """The worth of a curve at a moment."""
    corners, slope = curve
    index = last_corner(curve, moment)
    if index + 1 < len(corners):
        slope = rise_between(corners[index], corners[index + 1])
    return worth_on(corners[index], slope, moment)


def worths_of(curve, moments):
    """The worths of a curve at rising moments."""
    corners, slope = curve
    index = 0
    found = []
    for moment in moments:
        while index + 1 < len(corners) and not is_less(moment, corners[index + 1][0]):
            index += 1
        rise = slope
        if index + 1 < len(corners):
            rise = rise_between(corners[index], corners[index + 1])
        found.append(worth_on(corners[index], rise, moment))
    return found


def slope_of(curve, moment):
    """What a curve grows by a beat from a moment on."""
    return piece_slope(curve, last_corner(curve, moment))


def moments_of(curve):
    """The moments of the corners."""
    return [corner[0] for corner in curve[0]]


def merged(one, other):
    """Two lists of rising moments as one, each moment once."""
    found = []
    left = 0
    right = 0
    while left < len(one) and right < len(other):
        found.append(lesser(one[left], other[right]))
        if one[left] == found[-1]:
            left += 1
        if other[right] == found[-1]:
            right += 1
    return found + one[left:] + other[right:]


def together_with(one, other, factor):
    """The curve of one and a factor times other."""
    moments = merged(moments_of(one), moments_of(other))
    corners = [(moment, plus(first, times(factor, second)))
               for moment, first, second in zip(moments, worths_of(one, moments), worths_of(other, moments))]
    return tidied(corners, plus(one[1], times(factor, other[1])))


def gap_between(one, other):
    """The curve of one less other."""
    return together_with(one, other, (-1, 1))


def scaled_by(curve, factor):
    """The curve of a factor times the worths."""
    corners = [(moment, times(factor, worth)) for moment, worth in curve[0]]
    return tidied(corners, times(factor, curve[1]))


def leant(curve, slope):
    """The curve that grows everywhere by slope a beat more."""
    return ([(moment, plus(worth, times(moment, slope))) for moment, worth in curve[0]], plus(curve[1], slope))


def out_by_line(line, length, room):
    """The curve of when who comes at a moment is out, from the line that it finds."""
    corners = [(moment, plus(plus(moment, (length, 1)), over(heap, (room, 1)))) for moment, heap in line[0]]
    return (corners, plus(ONE, over(line[1], (room, 1))))


def after(outer, inner):
    """The curve of the worth of outer at the moment that is inner's worth; inner never falls."""
    corners = []
    passed = 0
    bends = outer[0]
    pieces = pieces_of(inner)
    for index, (begin, worth, slope) in enumerate(pieces):
        corners.append((begin, worth_of(outer, worth)))
        while passed < len(bends) and not is_less(worth, bends[passed][0]):
            passed += 1
        while slope != ZERO and passed < len(bends):
            if index + 1 < len(pieces) and not is_less(bends[passed][0], pieces[index + 1][1]):
                break
            corners.append((plus(begin, over(minus(bends[passed][0], worth), slope)), bends[passed][1]))
            passed += 1
    # If inner grows at last, no corner of outer is ahead any more.
    return tidied(corners, times(inner[1], outer[1]))


def crossings(curve):
    """The moments, rising, at which a curve goes through 0 between its corners."""
    found = []
    pieces = pieces_of(curve)
    for index, (begin, worth, slope) in enumerate(pieces):
        if worth[0] * slope[0] >= 0:
            continue
        moment = minus(begin, over(worth, slope))
        if index + 1 == len(pieces) or is_less(moment, pieces[index + 1][0]):
            found.append(moment)
    return found


def first_positive(curve):
    """The first moment at which, or right behind which, a curve is above 0, None if it is nowhere."""
    pieces = pieces_of(curve)
    for index, (begin, worth, slope) in enumerate(pieces):
        if worth[0] > 0:
            return begin
        if slope[0] > 0:
            moment = minus(begin, over(worth, slope))
            if index + 1 == len(pieces) or is_less(moment, pieces[index + 1][0]):
                return moment
    return None


def heap_curve(steps):
    """The curve of the heap that came by each moment, from pairs of a moment and an unlike rate."""
    corners = [(ZERO, ZERO)]
    for index in range(1, len(steps)):
        stretch = minus(steps[index][0], steps[index - 1][0])
        corners.append((steps[index][0], plus(corners[-1][1], times(steps[index - 1][1], stretch))))
    return (corners, steps[-1][1])


def steps_of(curve):
    """The pairs of a moment and what the curve grows by a beat from it on."""
    return [(moment, slope) for moment, _, slope in pieces_of(curve)]


def put_off(curve, length):
    """A curve that begins with 0, so many beats later."""
    corners = [(ZERO, ZERO)] + [(plus(moment, length), worth) for moment, worth in curve[0]]
    return tidied(corners, curve[1])


def cut_at(curve, until):
    """The curve that stays from a moment on as it is then."""
    corners = [corner for corner in curve[0] if is_less(corner[0], until)]
    return tidied(corners + [(until, worth_of(curve, until))], ZERO)
