"""Rooms, told by their corners in the order round."""

FEWEST_CORNERS = 3
MOST_CORNERS = 24
LEAST_NUMBER = -10000
GREATEST_NUMBER = 10000
NOT_SO = -2
NO_ROOM = -3


def is_so(n, numbers):
    """Whether n and each of the numbers, the corners' and a point's, are in their ranges."""
    if n < FEWEST_CORNERS or n > MOST_CORNERS:
        return False
    for number in numbers:
        if number < LEAST_NUMBER or number > GREATEST_NUMBER:
            return False
    return True


def corner_points(n, xy):
    """The corners as pairs of x and y."""
    return [(xy[2 * i], xy[2 * i + 1]) for i in range(n)]


def turn(a, b, c):
    """Above 0 if a, b, c turn left, below 0 if they turn right, 0 if they are on one line."""
    return (b[0] - a[0]) * (c[1] - a[1]) - (b[1] - a[1]) * (c[0] - a[0])


def on_one_side(a, b, c, d):
    """Whether c and d lie off the line through a and b, both on the same side of it."""
    return turn(a, b, c) * turn(a, b, d) > 0


def spans_meet(a, b, c, d):
    """Whether the numbers from a to b and those from c to d, in either order, have one in common."""
    return max(min(a, b), min(c, d)) <= min(max(a, b), max(c, d))


def walls_meet(a, b, c, d):
    """Whether the wall from a to b and the wall from c to d have a point in common."""
    if on_one_side(a, b, c, d) or on_one_side(c, d, a, b):
        return False
    # Two walls on one line come this far even when they lie apart on it; their spans tell.
    return spans_meet(a[0], b[0], c[0], d[0]) and spans_meet(a[1], b[1], c[1], d[1])


def has_three_on_a_line(points):
    """Whether three corners in a row, also across the last and the first, are on one line."""
    n = len(points)
    for i in range(n):
        if turn(points[i], points[(i + 1) % n], points[(i + 2) % n]) == 0:
            return True
    return False


def has_far_walls_that_meet(points):
    """Whether two walls that aren't neighbours have a point in common."""
    n = len(points)
    for i in range(n):
        for j in range(i + 2, n):
            # The first wall and the last are neighbours too.
            far = j - i < n - 1
            if far and walls_meet(points[i], points[i + 1], points[j], points[(j + 1) % n]):
                return True
    return False


def twice_area(points):
    """Twice the area within walls that don't meet: above 0 if it's on the left, below 0 if on the right."""
    n = len(points)
    total = 0
    for i in range(n):
        a = points[i]
        b = points[(i + 1) % n]
        total = total + a[0] * b[1] - b[0] * a[1]
    return total


def is_room(points):
    """Whether the walls that join the points in order make a room."""
    # Neighbours share more than their corner only if they are on one line, so far walls are left to ask.
    if has_three_on_a_line(points) or has_far_walls_that_meet(points):
        return False
    return twice_area(points) > 0


def is_on_way(a, b, p):
    """Whether p is a point of the straight way from a to b."""
    return turn(a, b, p) == 0 and spans_meet(a[0], b[0], p[0], p[0]) and spans_meet(a[1], b[1], p[1], p[1])


def is_crossed_by_ray(a, b, p):
    """Whether the ray from p in the direction of greater x crosses the wall from a to b."""
    if a[1] <= p[1] and b[1] > p[1]:
        # Seen along a wall that goes up, greater x is on the right: the wall is there if p is on the left.
        return turn(a, b, p) > 0
    if b[1] <= p[1] and a[1] > p[1]:
        return turn(b, a, p) > 0
    return False


def holds(points, p):
    """Whether the room with these corners holds p."""
    n = len(points)
    odd = False
    for i in range(n):
        a = points[i]
        b = points[(i + 1) % n]
        if is_on_way(a, b, p):
            return True
        if is_crossed_by_ray(a, b, p):
            odd = not odd
    return odd


def begins_in_room(before, c, after, p):
    """Whether the way from the corner c, between its neighbours, to p begins within the room or along a wall."""
    left_of_first = turn(before, c, p) >= 0
    left_of_second = turn(c, after, p) >= 0
    if turn(before, c, after) > 0:
        return left_of_first and left_of_second
    # At a corner that turns right, only what lies on the right of both walls is outside.
    return left_of_first or left_of_second


def is_cut_through(a, b, c, d):
    """Whether the ways from a to b and from c to d go through each other, not only touch."""
    return turn(a, b, c) * turn(a, b, d) < 0 and turn(c, d, a) * turn(c, d, b) < 0


def sees(points, i, p):
    """Whether corner i of the room with these corners sees p."""
    # A way that begins in a corner leaves the room only by going through a wall, or where it goes on from a corner.
    # If it never does, the room holds all of it, its end and the points whose numbers aren't whole among them.
    n = len(points)
    eye = points[i]
    for k in range(n):
        corner = points[k]
        after = points[(k + 1) % n]
        if is_cut_through(eye, p, corner, after):
            return False
        goes_on = corner != p and is_on_way(eye, p, corner)
        if goes_on and not begins_in_room(points[(k - 1) % n], corner, after, p):
            return False
    return True


def with_neighbours(left, k):
    """Of the corners left, in their order round: the one before the one at place k, itself, the one after it."""
    m = len(left)
    return (left[(k - 1) % m], left[k], left[(k + 1) % m])


def is_in_triangle(a, b, c, p):
    """Whether p is in the triangle a, b, c, which turns left, or on its sides."""
    return turn(a, b, p) >= 0 and turn(b, c, p) >= 0 and turn(c, a, p) >= 0


def is_ear(points, left, triangle):
    """Whether the middle corner of the triangle, which it makes with its neighbours, is an ear of the corners left."""
    a = points[triangle[0]]
    b = points[triangle[1]]
    c = points[triangle[2]]
    if turn(a, b, c) <= 0:
        return False
    for i in left:
        if i not in triangle and is_in_triangle(a, b, c, points[i]):
            return False
    return True


def least_ear(points, left):
    """The place of the least ear among the corners left."""
    # The corners left stand from the least on, so the first ear is the least. What ears leave of a room's corners
    # always has an ear, so one is found.
    k = 0
    while not is_ear(points, left, with_neighbours(left, k)):
        k = k + 1
    return k


def cut(points):
    """The triangles that the room's ears make, one after another: each the corner before the ear, it, the one after."""
    left = list(range(len(points)))
    triangles = []
    while len(left) > 2:
        k = least_ear(points, left)
        triangles.append(with_neighbours(left, k))
        left.pop(k)
    return triangles


def colours_of(n, triangles):
    """A colour for each corner so that none of the triangles, in the order of their cutting, has one twice."""
    colours = [0] * n
    # The neighbours of the last ear begin, with 0 and 1. From there backwards, each ear's neighbours have their
    # colours already, and the ear takes the third.
    colours[triangles[n - 3][2]] = 1
    for triangle in reversed(triangles):
        colours[triangle[1]] = 3 - colours[triangle[0]] - colours[triangle[2]]
    return colours


def renamed(colours):
    """The same colours called otherwise: corner 0 has 0, corner 1 has 1."""
    # Corners 0 and 1 are two of one triangle, as each wall is a side of one: so their colours differ.
    names = [2, 2, 2]
    names[colours[0]] = 0
    names[colours[1]] = 1
    return [names[colour] for colour in colours]


def three(points):
    """The colour of each corner of the room with these corners."""
    return renamed(colours_of(len(points), cut(points)))


def least_of_the_fewest(colours):
    """The least of the colours that the fewest corners have."""
    best = 0
    for colour in range(1, 3):
        if colours.count(colour) < colours.count(best):
            best = colour
    return best


def mask_of(colours, colour):
    """The mask of the corners that have the colour: corner i adds 2 to the i."""
    mask = 0
    bit = 1
    for other in colours:
        if other == colour:
            mask = mask + bit
        bit = bit * 2
    return mask


def refusal(n, xy, place):
    """-2 if n, a number of xy or one of the place isn't so, else -3 if it's no room, else 0: nothing is refused."""
    if not is_so(n, xy + place):
        return NOT_SO
    if not is_room(corner_points(n, xy)):
        return NO_ROOM
    return 0


def one_or_zero(truth):
    """The answer [1] or [0]: what is given back holds whole numbers, never True or False."""
    if truth:
        return [1]
    return [0]


def ga_room(n, xy):
    """[1] if the corners make a room, [0] if they don't, [-2] if n or a number isn't so."""
    if not is_so(n, xy):
        return [NOT_SO]
    return one_or_zero(is_room(corner_points(n, xy)))


def ga_holds(n, x, y, xy):
    """[1] if the room holds the point at x and y, else [0]; [-2] if n or a number isn't so, [-3] if it's no room."""
    refused = refusal(n, xy, [x, y])
    if refused < 0:
        return [refused]
    return one_or_zero(holds(corner_points(n, xy), (x, y)))


def ga_sees(n, i, x, y, xy):
    """[1] if corner i sees the point at x and y, else [0]; [-2] if n, i or a number isn't so, [-3] if it's no room."""
    if i < 0 or i >= n:
        return [NOT_SO]
    refused = refusal(n, xy, [x, y])
    if refused < 0:
        return [refused]
    return one_or_zero(sees(corner_points(n, xy), i, (x, y)))


def ga_cut(n, xy):
    """How many triangles the room is cut into, then three corners of each; [-2] or [-3] as above."""
    refused = refusal(n, xy, [])
    if refused < 0:
        return [refused]
    triangles = cut(corner_points(n, xy))
    answer = [len(triangles)]
    for triangle in triangles:
        answer.extend(triangle)
    return answer


def ga_three(n, xy):
    """0, then a colour for each corner; [-2] or [-3] as above."""
    refused = refusal(n, xy, [])
    if refused < 0:
        return [refused]
    return [0] + three(corner_points(n, xy))


def ga_watch(n, xy):
    """How many corners have the least of the colours that the fewest have, then their mask; [-2] or [-3] as above."""
    refused = refusal(n, xy, [])
    if refused < 0:
        return [refused]
    colours = three(corner_points(n, xy))
    watching = least_of_the_fewest(colours)
    return [colours.count(watching), mask_of(colours, watching)]
