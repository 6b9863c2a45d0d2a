"""What a room is, holds and sees, and how it's cut, worked out another way than the package does it, to hold its answers against.

Points in common are worked out in fractions, and the left side is told by a point beside a wall
that is held by the room (a ray from it crosses walls an odd number of times). A way is cut wherever
it meets a wall, and is asked for at each cut and in the middle between each two. A point is in a triangle by its shares of the sides.
"""

from fractions import Fraction


def points_of(n, xy):
    return [(Fraction(xy[2 * i]), Fraction(xy[2 * i + 1])) for i in range(n)]


def walls_of(points):
    n = len(points)
    return [(points[i], points[(i + 1) % n]) for i in range(n)]


def minus(p, q):
    return (p[0] - q[0], p[1] - q[1])


def cross(p, q):
    return p[0] * q[1] - p[1] * q[0]


def along(wall, t):
    (ax, ay), (bx, by) = wall
    return (ax + t * (bx - ax), ay + t * (by - ay))


def where_on(wall, p):
    """How far along the wall's line p lies, 0 at its start and 1 at its end; p is on that line."""
    k = 0 if wall[0][0] != wall[1][0] else 1
    return (p[k] - wall[0][k]) / (wall[1][k] - wall[0][k])


def in_common(one, other):
    """None, a point, or "many": what two walls, neither of them a mere point, have in common."""
    r, s = minus(one[1], one[0]), minus(other[1], other[0])
    between = minus(other[0], one[0])
    if cross(r, s) != 0:
        t, u = cross(between, s) / cross(r, s), cross(between, r) / cross(r, s)
        return along(one, t) if 0 <= t <= 1 and 0 <= u <= 1 else None
    if cross(between, r) != 0:
        return None
    ends = sorted(where_on(one, p) for p in other)
    low, high = max(ends[0], 0), min(ends[1], 1)
    if low > high:
        return None
    return along(one, low) if low == high else "many"


def crossings(walls, x, y):
    count = 0
    for (ax, ay), (bx, by) in walls:
        if (ay > y) != (by > y) and ax + (y - ay) * (bx - ax) / (by - ay) > x:
            count += 1
    return count


def is_left_inside(walls):
    """Whether the room holds a point just left of the first wall's middle, nearer than any other wall."""
    (ax, ay), (bx, by) = walls[0]
    middle = along(walls[0], Fraction(1, 2))
    left = (ay - by, bx - ax)
    # The nearest wall on the way to the left bounds how far the point may be off the first wall.
    nearest = Fraction(1)
    way = (middle, (middle[0] + left[0], middle[1] + left[1]))
    for wall in walls[1:]:
        p = in_common(way, wall)
        for q in wall if p == "many" else [p] if p else []:
            if where_on(way, q) > 0:
                nearest = min(nearest, where_on(way, q))
    x, y = along(way, nearest / 2)
    return crossings(walls, x, y) % 2 == 1


def has_line(points):
    return any(cross(minus(points[i - 1], points[i - 2]), minus(points[i], points[i - 1])) == 0
               for i in range(len(points)))


def what_of_walls(one, other, shared):
    """What is wrong with two walls, of which neighbours may share a corner: a list of at most one word."""
    common = in_common(one, other)
    if common == shared:
        return []
    if common == "many":
        return ["overlap"]
    return ["touch" if common in one + other else "cross"]


def reasons(n, xy):
    """Why it's no room: "line" alone, or else which of "cross", "touch", "overlap", or else "right"."""
    points = points_of(n, xy)
    if has_line(points):
        return ["line"]
    walls = walls_of(points)
    found = []
    for i in range(n):
        for j in range(i):
            shared = None
            if j == i - 1:
                shared = points[i]
            if i == n - 1 and j == 0:
                shared = points[0]
            found += what_of_walls(walls[i], walls[j], shared)
    if not found and not is_left_inside(walls):
        found.append("right")
    return sorted(set(found))


def is_room(n, xy):
    return reasons(n, xy) == []


def is_on(wall, p):
    return cross(minus(wall[1], wall[0]), minus(p, wall[0])) == 0 and 0 <= where_on(wall, p) <= 1


def is_held(walls, p):
    return any(is_on(wall, p) for wall in walls) or crossings(walls, *p) % 2 == 1


def holds(n, x, y, xy):
    return is_held(walls_of(points_of(n, xy)), (x, y))


def cuts_of(way, walls):
    """How far along the way its ends lie, and each place where it comes to a wall or leaves one."""
    cuts = [Fraction(0), Fraction(1)]
    for wall in walls:
        p = in_common(way, wall)
        for q in wall if p == "many" else [p] if p else []:
            if 0 <= where_on(way, q) <= 1:
                cuts.append(where_on(way, q))
    return sorted(set(cuts))


def sees(n, i, x, y, xy):
    points = points_of(n, xy)
    walls = walls_of(points)
    way = (points[i], (Fraction(x), Fraction(y)))
    if way[0] == way[1]:
        return is_held(walls, way[0])
    cuts = cuts_of(way, walls)
    middles = [(cuts[k] + cuts[k + 1]) / 2 for k in range(len(cuts) - 1)]
    return all(is_held(walls, along(way, t)) for t in cuts + middles)


def is_in(triangle, p):
    """Whether p, as one corner and shares of both sides from it, stays within the triangle or on its sides."""
    a, b, c = triangle
    whole = cross(minus(b, a), minus(c, a))
    first, second = cross(minus(p, a), minus(c, a)) / whole, cross(minus(b, a), minus(p, a)) / whole
    return first >= 0 and second >= 0 and first + second <= 1


def is_ear(points, left, i):
    k = left.index(i)
    around = [left[k - 1], i, left[(k + 1) % len(left)]]
    triangle = [points[j] for j in around]
    if cross(minus(triangle[1], triangle[0]), minus(triangle[2], triangle[1])) <= 0:
        return False
    return not any(is_in(triangle, points[j]) for j in left if j not in around)


def cut(n, xy):
    """The triangles, each as a list of three corners."""
    points = points_of(n, xy)
    left = list(range(n))
    triangles = []
    while len(left) > 2:
        ear = min(i for i in left if is_ear(points, left, i))
        k = left.index(ear)
        triangles.append([left[k - 1], ear, left[(k + 1) % len(left)]])
        left.remove(ear)
    return triangles
