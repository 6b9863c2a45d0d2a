"""Rooms to ask about, what is no room, and ways to make more of them."""

from watchedrooms.corners import ga_room

TRIANGLE = [(0, 0), (4, 0), (0, 3)]
SQUARE = [(0, 0), (4, 0), (4, 4), (0, 4)]
DART = [(0, 0), (4, 1), (8, 0), (4, 9)]
ANGLE = [(0, 0), (6, 0), (6, 2), (2, 2), (2, 6), (0, 6)]
# Its two upper walls lie on one line, apart from one another.
TROUGH = [(0, 0), (9, 0), (9, 5), (6, 5), (6, 2), (3, 2), (3, 5), (0, 5)]
SPIRAL = [(0, 0), (10, 0), (10, 10), (2, 10), (2, 4), (6, 4), (6, 6), (4, 6), (4, 8), (8, 8), (8, 2), (0, 2)]
# Three peaks at one height, and two notches between them at another.
CROWN = [(0, 0), (12, 0), (12, 6), (9, 3), (6, 6), (3, 3), (0, 6)]
WIDEST = [(-10000, -10000), (10000, -10000), (10000, 10000), (-10000, 10000)]

# What is no room, by its reason as the reference names it.
NO_ROOMS = {
    "cross": [(0, 0), (4, 4), (4, 0), (0, 3)],
    "touch": [(0, 0), (8, 0), (8, 6), (4, 0), (0, 6)],
    "touch from the outside": [(0, 0), (10, 0), (10, 10), (2, 10), (2, 8), (8, 8), (8, 2), (6, 2), (5, 8), (4, 2)],
    "touch at corners": [(0, 0), (4, 4), (8, 0), (9, 7), (4, 4), (1, 8)],
    "overlap": [(0, 0), (8, 0), (8, 9), (4, 7), (4, 2), (1, 3), (4, 5), (4, 10), (0, 9)],
    "line": [(0, 0), (2, 0), (4, 0), (4, 4), (0, 4)],
    "line back again": [(0, 0), (8, 0), (4, 0), (4, 4)],
    "line of neighbours at one place": [(0, 0), (4, 0), (4, 0), (4, 4), (0, 4)],
    "line alone": [(0, 0), (2, 2), (9, 9)],
    "right": [(0, 4), (4, 4), (4, 0), (0, 0)],
    "right, with bays": SPIRAL[::-1],
}


def comb(teeth):
    """Three corners a tooth; each tooth's tip up, notches between, the last corner closes the floor."""
    points = [(0, -5), (10 * teeth, -5)]
    for k in range(teeth - 1, -1, -1):
        points += [(10 * k + 8, 0), (10 * k + 5, 40), (10 * k + 2, 1)]
    return points


def star(points):
    """Corners that turn left and right by turns, on a square's outside and inside, in order round."""
    outer = [(100, 0), (100, 100), (0, 100), (-100, 100), (-100, 0), (-100, -100), (0, -100), (100, -100)]
    inner = [(20, 10), (10, 20), (-10, 20), (-20, 10), (-20, -10), (-10, -20), (10, -20), (20, -10)]
    joined = []
    for k in range(points):
        joined += [outer[k], inner[k]]
    return joined


def bowl(n):
    """n corners on a parabola: all of them turn left."""
    return [(20 * k, k * k) for k in range(n)]


def saw():
    """24 corners: a floor, and above it teeth with notches between."""
    return [(0, -5), (120, -5)] + [(115 - 5 * k, 40 if k % 2 else 0) for k in range(22)]


def prongs(k):
    """3 k corners: a low hall under k narrow prongs, no two of whose tips are seen from one place."""
    points = [(0, 0), (100 * k, 0), (100 * k - 5, 900)]
    for j in range(k - 1, 0, -1):
        points += [(100 * j, 10), (100 * j - 10, 10), (100 * j - 15, 900)]
    return points


def flat(points):
    return [number for point in points for number in point]


def turned(points, k):
    """The same walls, begun k corners later."""
    return points[k:] + points[:k]


# A mirror puts the room on the right, unless the order round is turned about too.
TURNS = (lambda x, y: (x, y), lambda x, y: (-y, x), lambda x, y: (-x, -y), lambda x, y: (y, -x))
MIRRORS = (lambda x, y: (-x, y), lambda x, y: (x, -y), lambda x, y: (y, x))


def ways_round(points):
    """The room turned and mirrored: how a place is moved, and the room's corners, moved, with the room on the left."""
    for move in TURNS:
        yield move, [move(x, y) for x, y in points]
    for move in MIRRORS:
        yield move, [move(x, y) for x, y in reversed(points)]


def grown(source, n, least, greatest):
    """A room of at most n corners, with numbers from least to greatest: where these are few, many corners are on one
    line with others."""
    points = [(least, least), (greatest, least), (source.randint(least, greatest), greatest)]
    for attempt in range(8 * n):
        at = source.randrange(len(points))
        place = (source.randint(least, greatest), source.randint(least, greatest))
        more = points[:at] + [place] + points[at:]
        if len(more) <= n and ga_room(len(more), flat(more)) == [1]:
            points = more
    return points
